import PyProof.Rows.All
import KE.KDictList
import KE.KItemsList
import KE.KRevIter
import KE.KSortTup
import KE.KUnpack
import PyProof.Draws
import PyProof.ExcClass3
import PyProof.ExcInit
import PyProof.InstStoreFacts
import PyProof.MaxThree
import PyProof.P3In
import PyProof.Rows.FStr
import PyProof.ZipIter
import Wide.All
import OpenK.AllK
import Wide.FinOn
import Lean
import PyProof.EqAt
import PyProof.EqKinds
import PyProof.TupleCall
import PySem.Challenge.RW_rankpouch_k78_no_text
set_option Elab.async false
set_option linter.all false
set_option maxRecDepth 100000
namespace L2
open PySem PySem.Spec PyProof.Rows
abbrev Key:=Sum Int Str
def zp2:Key→Value→Bool
 | .inl k,v=>Value.isInt k v
 | .inr x,v=>Value.isStrOf x v
def keyH (w:World):Key→Int
 | .inl k=>hashInt k
 | .inr x=>hashStr w x
theorem za0:∀ {k:Key} {v:Value},zp2 k v=true→(∃ i t,k=Sum.inl i∧v=Value.int i t)∨(∃ x t,k=Sum.inr x∧v=Value.str x t)
 | .inl i,v,h=>by
  obtain ⟨t,e⟩:=Value.isInt_shape (k:=i) (v:=v) h
  exact .inl ⟨i,t,rfl,e⟩
 | .inr x,v,h=>by
  obtain ⟨t,e⟩:=Value.isStrOf_shape (x:=x) (v:=v) h
  exact .inr ⟨x,t,rfl,e⟩
theorem zov (a b:Int):decide ((Sum.inl a:Key)=Sum.inl b)=(a == b):=by
 by_cases e:a=b
 ·subst e;simp
 ·have h:¬ (Sum.inl a:Key)=Sum.inl b:=fun q=>e (Sum.inl.inj q)
  rw [decide_eq_false h]
  exact (beq_eq_false_iff_ne.mpr e).symm
theorem zpN (a b:Str):decide ((Sum.inr a:Key)=Sum.inr b)=decide (a=b):=by
 by_cases e:a=b
 ·subst e;simp
 ·have h:¬ (Sum.inr a:Key)=Sum.inr b:=fun q=>e (Sum.inr.inj q)
  rw [decide_eq_false h,decide_eq_false e]
theorem zpV (a:Int) (b:Str):decide ((Sum.inl a:Key)=Sum.inr b)=false:=decide_eq_false (fun q=>nomatch q)
theorem zpO (a:Str) (b:Int):decide ((Sum.inr a:Key)=Sum.inl b)=false:=decide_eq_false (fun q=>nomatch q)
def zke (prog:Program) (w:World):PySem.KeyKind prog w Key where
 is:=zp2
 hash:=keyH w
 inj:=fun v a b ha hb=>by
  rcases za0 ha with ⟨i,t,rfl,rfl⟩ | ⟨x,t,rfl,rfl⟩
  ·rcases za0 hb with ⟨j,u,rfl,e⟩ | ⟨y,u,rfl,e⟩
   ·injection e with e1 _;rw [e1]
   ·exact nomatch e
  ·rcases za0 hb with ⟨j,u,rfl,e⟩ | ⟨y,u,rfl,e⟩
   ·exact nomatch e
   ·injection e with e1 _;rw [e1]
 byValue:=fun k v h=>by
  rcases za0 h with ⟨i,t,rfl,rfl⟩ | ⟨x,t,rfl,rfl⟩ <;> rfl
 pyHash:=fun hv h=>by
  rcases za0 hv with ⟨i,t,rfl,rfl⟩ | ⟨x,t,rfl,rfl⟩
  ·exact wpAny_pyHash_int h
  ·exact wpAny_pyHash_str h
 eqBool:=fun hu hv h=>by
  rcases za0 hu with ⟨i,t,rfl,rfl⟩ | ⟨x,t,rfl,rfl⟩
  ·rcases za0 hv with ⟨j,u,rfl,rfl⟩ | ⟨y,u,rfl,rfl⟩
   ·rw [zov] at h;exact wpAny_eqBool_int h
   ·rw [zpV] at h;exact SeqAt.EqAt.int_str i t y u _ _ _ _ h
  ·rcases za0 hv with ⟨j,u,rfl,rfl⟩ | ⟨y,u,rfl,rfl⟩
   ·rw [zpO] at h;exact SeqAt.EqAt.str_int x t j u _ _ _ _ h
   ·rw [zpN] at h;exact wpAny_eqBool_str h
 «strs»:=fun k x t v h=>by
  rcases za0 h with ⟨i,u,rfl,e⟩ | ⟨y,u,rfl,e⟩
  ·exact nomatch e
  ·injection e with e1 _
   subst e1
   cases v <;> rfl
end L2
namespace L2
open PySem PySem.Spec PyProof.Rows
inductive V where
 | non | bl (b:Bool) | int (i:Int) | str (x:Str) | byt (b:Array UInt8) | flt (b:UInt64) | ref (a:Addr) | ty (n:String)
 deriving DecidableEq
def RelV:V→Value→Prop
 | .non,u=>u=Value.none
 | .bl b,u=>u=Value.bool b
 | .int i,u=>∃ t,u=Value.int i t
 | .str x,u=>∃ t,u=Value.str x t
 | .byt b,u=>∃ t,u=Value.bytes b t
 | .flt b,u=>∃ t,u=Value.float b t
 | .ref a,u=>u=Value.ref a
 | .ty n,u=>u=Value.type n
abbrev Vals:List V→List Value→Prop:=Paired RelV
theorem Vals.length {xs:List V} {us:List Value} (r:Vals xs us):xs.length=us.length:=Paired.length r
theorem Vals.get:∀ {xs:List V} {us:List Value} {i:Nat} {x:V},Vals xs us→xs[i]? = some x→∃ u,us[i]? = some u∧RelV x u
 | _,_,_,_, .nil,e=>by simp at e
 | _,_,0,_, .cons r _,e=>by simp at e;subst e;exact ⟨_,rfl,r⟩
 | _,_,i + 1,x, .cons _ t,e=>by
  obtain ⟨u,h1,h2⟩:=Vals.get (i:=i) (x:=x) t (by simpa using e)
  exact ⟨u,by simpa using h1,h2⟩
theorem Vals.set {x:V} {u:Value} (r:RelV x u):∀ {xs:List V} {us:List Value} (i:Nat),Vals xs us→Vals (xs.set i x) (us.set i u)
 | _,_,_, .nil => .nil
 | _,_,0, .cons _ t => .cons r t
 | _,_,i + 1, .cons q t => .cons q (Vals.set r i t)
theorem Vals.append:∀ {xs ys:List V} {us ws:List Value},Vals xs us→Vals ys ws→Vals (xs ++ ys) (us ++ ws)
 | _,_,_,_, .nil,s=>s
 | _,_,_,_, .cons r t,s => .cons r (Vals.append t s)
theorem Vals.take:∀ {xs:List V} {us:List Value} (n:Nat),Vals xs us→Vals (xs.take n) (us.take n)
 | _,_,0,_ => .nil
 | _,_,_ + 1, .nil => .nil
 | _,_,n + 1, .cons r t => .cons r (Vals.take n t)
theorem Vals.drop:∀ {xs:List V} {us:List Value} (n:Nat),Vals xs us→Vals (xs.drop n) (us.drop n)
 | _,_,0,r=>r
 | _,_,_ + 1, .nil => .nil
 | _,_,n + 1, .cons _ t=>Vals.drop n t
def RelO:Option V→Option Value→Prop
 | some v,some u=>RelV v u
 | none,none=>True
 | _,_=>False
def KV {κ:Type}:List (κ × V)→List (κ × Value)→Prop:=Paired fun (p:κ × V) (q:κ × Value)=>p.1=q.1∧RelV p.2 q.2
def kV:Key→V
 | .inl i => .int i
 | .inr x => .str x
inductive HO where
 | lst (xs:List V)
 | tup (xs:List V)
 | dK (kvs:List (Key × V)) | dT (kvs:List (List Key × V))
 | set (S:Int→Bool) (n:Nat)
 | ins (C dx:Addr) (fs:List (Str × V))
 | own (x:Addr)
 | xd (fs:List (Str × V))
 | met (f x:Addr)
 | rng (lo hi:Int)
 | frz (o:Obj) (u:HO)
 | tbl (ps:Array Value)
 | ext (φ:Heap→Prop)
abbrev Hp:=Addr→Option HO
def upd (H:Hp) (a:Addr) (o:HO):Hp:=fun b=>if b=a then some o else H b
theorem zaG {H:Hp} {a:Addr} {o:HO}:upd H a o a=some o:=by unfold upd;rw [if_pos rfl]
theorem zaj {H:Hp} {a b:Addr} {o:HO} (h:b ≠ a):upd H a o b=H b:=by unfold upd;rw [if_neg h]
theorem zpf {H:Hp} {a b:Addr} {o u:HO} (h:H a=some o) (h':H b=some u) (d:o ≠ u):a ≠ b:=by
 intro e;subst e;rw [h] at h';exact d (Option.some.inj h')
theorem zaB {H:Hp} {a b:Addr} {o:HO} (h:H a=some o) (h':H b=none):a ≠ b:=by
 intro e;subst e;rw [h] at h';cases h'
section
variable (P:Program) (w:World)
def zcl (H:Hp) (h:Heap) (a:Addr):HO→Prop
 | .lst xs=>xs.length ≤ sizeLine∧∃ (its:List Value) (n:Nat),Vals xs its∧h.get? a=some { cls := .type "list",data := .seq its.toArray n }
 | .tup xs=>xs.length ≤ sizeLine∧∃ its:List Value,Vals xs its∧IsTup h a its.toArray
 | .dK kvs=>kvs.length ≤ sizeLine∧(a == sysModules)=false∧∃ vs,KV kvs vs∧h.DictOf (zke P w) a vs
 | .dT kvs=>kvs.length ≤ sizeLine∧(a == sysModules)=false∧∃ xs:List (List Key × Addr × Value),
   Paired (fun (p:List Key × V) (q:List Key × Addr × Value)=>p.1=q.1∧H q.2.1=some (.tup (p.1.map kV))∧RelV p.2 q.2.2) kvs xs ∧
   ∃ o es ep,h.get? a=some o∧o.ExactDict∧o.data = .dict es ep∧es.toList=xs.map (entryOfKey (tupleKind (zke P w)))∧(xs.map (·.1)).Nodup
 | .set S n=>h.SetOf (intKind P w) a S n
 | .ins C dx fs=>H dx=some (.own a)∧fs.length ≤ 1000∧dx ≠ a∧h.get? a=some (PySem.W.instObj C dx) ∧
   ∃ mA,h.Ns1 dx mA∧(∀ f,RelO (fs.lookup f) (mA f))∧PySem.Within mA (fs.map (·.1))
 | .own _=>∃ o,h.get? a=some o
 | .xd fs=>∃ mA,h.Ns1 a mA∧∀ f,RelO (fs.lookup f) (mA f)
 | .rng lo hi=>∃ t u v,h.get? a=some { cls := .type "range",data := .fields #[.int lo t, .int hi u, .int 1 v] }
 | .frz o u=>h.get? a=some o∧zcl H h a u
 | .tbl ps=>h.get? a=some { cls := .none,data := .fields ps }
 | .met f x=>h.get? a=some (PySem.W.methodObj (.ref f) (.ref x))
 | .ext φ=>φ h∧(∃ o,h.get? a=some o)∧∀ h1 h2:Heap,φ h1→(∀ o,h1.get? a=some o→h2.get? a=some o)→φ h2
def HOk (H:Hp) (h:Heap):Prop:=∀ a o,H a=some o→zcl P w H h a o
end
section
variable {P:Program} {w:World} {H H':Hp} {h h':Heap} {a:Addr} {o:HO}
theorem zcl.lt (x:zcl P w H h a o):a < h.objs.size:=by
 cases o with
 | lst xs=>obtain ⟨_,_,_,_,e⟩:=x;exact Heap.lt_size e
 | tup xs=>obtain ⟨_,_,_,p⟩:=x;exact p.lt
 | dK kvs=>obtain ⟨_,_,_,_,o,_,_,e,_⟩:=x;exact Heap.lt_size e
 | dT kvs=>obtain ⟨_,_,_,_,o,_,_,e,_⟩:=x;exact Heap.lt_size e
 | set S n=>obtain ⟨o,_,_,_,e,_⟩:=x;exact Heap.lt_size e
 | ins C dx fs=>obtain ⟨_,_,_,e,_⟩:=x;exact Heap.lt_size e
 | own y=>obtain ⟨_,e⟩:=x;exact Heap.lt_size e
 | xd fs=>obtain ⟨_,⟨_,_,_,e,_⟩,_⟩:=x;exact Heap.lt_size e
 | rng lo hi=>obtain ⟨_,_,_,e⟩:=x;exact Heap.lt_size e
 | frz ob u=>obtain ⟨e,_⟩:=x;exact Heap.lt_size e
 | tbl ps=>exact Heap.lt_size (show h.get? a=some _ from x)
 | met f y=>exact Heap.lt_size (show h.get? a=some _ from x)
 | ext φ=>obtain ⟨_,⟨_,e⟩,_⟩:=x;exact Heap.lt_size e
theorem Paired.mapP {α β:Type} {F G:α→β→Prop}:∀ {l₁:List α} {l₂:List β},Paired F l₁ l₂→(∀ a b,F a b→G a b)→Paired G l₁ l₂
 | _,_, .nil,_ => .nil
 | _,_, .cons r t,f => .cons (f _ _ r) (Paired.mapP t f)
theorem zcl.stay (x:zcl P w H h a o) (k:∀ b u,(b=a∨H b=some (.own a))→h.get? b=some u→h'.get? b=some u)
  (ho:∀ b,H b=some (.own a)→H' b=some (.own a)) (ht:∀ b xs,H b=some (.tup xs)→H' b=some (.tup xs)):zcl P w H' h' a o:=by
 induction o with
 | lst xs=>obtain ⟨z,its,n,r,e⟩:=x;exact ⟨z,its,n,r,k _ _ (.inl rfl) e⟩
 | tup xs=>obtain ⟨z,its,r,ob,e,c⟩:=x;exact ⟨z,its,r,ob,k _ _ (.inl rfl) e,c⟩
 | dK kvs=>obtain ⟨z,y,vs,r,ob,es,ep,e,c⟩:=x;exact ⟨z,y,vs,r,ob,es,ep,k _ _ (.inl rfl) e,c⟩
 | dT kvs =>
  obtain ⟨z,y,xs,r,ob,es,ep,e,c⟩:=x
  exact ⟨z,y,xs,Paired.mapP r fun p q z=>⟨z.1,ht _ _ z.2.1,z.2.2⟩,ob,es,ep,k _ _ (.inl rfl) e,c⟩
 | set S n=>obtain ⟨ob,es,ep,t,e,c⟩:=x;exact ⟨ob,es,ep,t,k _ _ (.inl rfl) e,c⟩
 | ins C dx fs =>
  obtain ⟨d,z,ne,e,mA,⟨od,es,ep,e2,c⟩,r⟩:=x
  exact ⟨ho _ d,z,ne,k _ _ (.inl rfl) e,mA,⟨od,es,ep,k _ _ (.inr d) e2,c⟩,r⟩
 | own y=>obtain ⟨ob,e⟩:=x;exact ⟨ob,k _ _ (.inl rfl) e⟩
 | xd fs=>obtain ⟨mA,⟨od,es,ep,e,c⟩,r⟩:=x;exact ⟨mA,⟨od,es,ep,k _ _ (.inl rfl) e,c⟩,r⟩
 | rng lo hi=>obtain ⟨t,u,v,e⟩:=x;exact ⟨t,u,v,k _ _ (.inl rfl) e⟩
 | frz ob u ih=>obtain ⟨e,q⟩:=x;exact ⟨k _ _ (.inl rfl) e,ih q⟩
 | tbl ps =>
  have e:h.get? a=some { cls := .none,data := .fields ps }:=x
  show h'.get? a=some { cls := .none,data := .fields ps }
  exact k a _ (.inl rfl) e
 | met f y =>
  have e:h.get? a=some (PySem.W.methodObj (.ref f) (.ref y)):=x
  show h'.get? a=some (PySem.W.methodObj (.ref f) (.ref y))
  exact k a _ (.inl rfl) e
 | ext φ=>obtain ⟨p,⟨o,e⟩,st⟩:=x;exact ⟨st _ _ p fun o q=>k _ _ (.inl rfl) q,⟨o,k _ _ (.inl rfl) e⟩,st⟩
theorem HOk.lt (x:HOk P w H h) (e:H a=some o):a < h.objs.size:=(x a o e).lt
theorem HOk.fresh (x:HOk P w H h) (e:h.objs.size ≤ a):H a=none:=by
 cases q:H a with
 | none=>rfl
 | some u=>exact absurd (Nat.lt_of_lt_of_le (x.lt q) e) (Nat.lt_irrefl _)
theorem HOk.kept (x:HOk P w H h) (k:∀ b u,h.get? b=some u→h'.get? b=some u):HOk P w H h':=fun a o e =>
 (x a o e).stay (fun b u _ q=>k b u q) (fun _ q=>q) fun _ _ q=>q
theorem HOk.laid (x:HOk P w H h) (k:∀ b u,h.get? b=some u→h'.get? b=some u) (hp:h.objs.size ≤ a) (new:zcl P w (upd H a o) h' a o):HOk P w (upd H a o) h':=fun b u e=>by
 have hn:=x.fresh hp
 by_cases hb:b=a
 ·subst hb;rw [zaG] at e;cases e;exact new
 ·rw [zaj hb] at e
  exact (x b u e).stay (fun c v _ q=>k c v q) (fun c q=>by rw [zaj (zaB q hn)];exact q) fun c xs q=>by rw [zaj (zaB q hn)];exact q
end
def Rd (H:Hp) (a:Addr) (u:HO):Prop:=H a=some u∨∃ o,H a=some (.frz o u)
theorem Rd.of {H:Hp} {a:Addr} {u:HO} (h:H a=some u):Rd H a u := .inl h
theorem Rd.ok {P:Program} {w:World} {H:Hp} {h:Heap} {a:Addr} {u:HO} (r:Rd H a u) (x:HOk P w H h):zcl P w H h a u:=by
 rcases r with r | ⟨o,r⟩
 ·exact x a u r
 ·obtain ⟨_,q⟩:=x a _ r
  exact q
def Mut:Option HO→Prop
 | some (.lst _)=>True
 | some (.dK _)=>True
 | some (.dT _)=>True
 | some (.set _ _)=>True
 | some (.ins _ _ _)=>True
 | some (.ext _)=>True
 | _=>False
section
variable {P:Program} {w:World} {H:Hp} {h h':Heap} {x e:Addr} {o':HO}
theorem HOk.write (ok:HOk P w H h) (mu:Mut (H x)) (he:e=x∨H e=some (.own x)) (k:∀ b u,b ≠ e→h.get? b=some u→h'.get? b=some u) (heo:∃ u,h'.get? e=some u)
  (new:zcl P w (upd H x o') h' x o'):HOk P w (upd H x o') h':=fun b u q=>by
 have nown:∀ c y,H c=some (.own y)→c ≠ x:=fun c y r z=>by subst z;rw [r] at mu;exact mu
 have ntup:∀ c xs,H c=some (.tup xs)→c ≠ x:=fun c xs r z=>by subst z;rw [r] at mu;exact mu
 by_cases hb:b=x
 ·subst hb;rw [zaG] at q;cases q;exact new
 ·rw [zaj hb] at q
  by_cases hbe:b=e
  ·have q':H b=some (.own x):=by
    rcases he with z | z
    ·exact absurd (hbe.trans z) hb
    ·rw [hbe];exact z
   rw [q] at q';cases q'
   obtain ⟨v,hv⟩:=heo
   exact ⟨v,by rw [hbe];exact hv⟩
  ·refine (ok b u q).stay (fun c v hc r=>k c v ?_ r) (fun c r=>by rw [zaj (nown c b r)];exact r) fun c xs r=>by rw [zaj (ntup c xs r)];exact r
   rcases hc with rfl | hc
   ·exact hbe
   ·rintro rfl
    rcases he with z | z
    ·exact nown c b hc z
    ·rw [hc] at z;cases z;exact hb rfl
end
structure Un (fs ex:List Addr) (H H':Hp) (h h':Heap):Prop where
 keep:∀ b o,h.get? b=some o→H b=none→b ∉ fs→b ∉ ex→h'.get? b=some o
 slot:∀ b o,h.get? b=some o→H b=none→b ∈ fs→b ∉ ex→∃ sl,h'.get? b=some { o with slots:=sl }
 free:∀ b o,h.get? b=some o→H b=none→b ∉ ex→H' b=none
 there:∀ b o,h.get? b=some o→b ∉ ex→∃ o',h'.get? b=some o'
 tups:∀ b xs,H b=some (.tup xs)→H' b=some (.tup xs)
 frzs:∀ b o u,H b=some (.frz o u)→H' b=some (.frz o u)
 tbls:∀ b ps,H b=some (.tbl ps)→∃ more,H' b=some (.tbl (ps ++ more))
section
variable {fs fs' ex ex':List Addr} {H H1 H2:Hp} {h h1 h2 h':Heap} {a x e:Addr} {o:HO}
theorem Un.any (u:Un fs ex H H1 h h1) {b:Addr} {ob:Obj} (q:h.get? b=some ob) (n:H b=none) (hx:b ∉ ex):∃ sl,h1.get? b=some { ob with slots:=sl }:=by
 by_cases hb:b ∈ fs
 ·exact u.slot b ob q n hb hx
 ·exact ⟨ob.slots,u.keep b ob q n hb hx⟩
theorem Un.trans (a:Un fs ex H H1 h h1) (b:Un fs ex H1 H2 h1 h2):Un fs ex H H2 h h2 where
 keep:=fun c ob q n hc hx=>b.keep c ob (a.keep c ob q n hc hx) (a.free c ob q n hx) hc hx
 slot:=fun c ob q n hc hx=>by
  obtain ⟨sl,e1⟩:=a.slot c ob q n hc hx
  obtain ⟨sl',e2⟩:=b.slot c _ e1 (a.free c ob q n hx) hc hx
  exact ⟨sl',e2⟩
 free:=fun c ob q n hx=>by
  obtain ⟨o',e1⟩:=a.there c ob q hx
  exact b.free c o' e1 (a.free c ob q n hx) hx
 there:=fun c ob q hx=>by
  obtain ⟨o',e1⟩:=a.there c ob q hx
  exact b.there c o' e1 hx
 tups:=fun c xs q=>b.tups c xs (a.tups c xs q)
 frzs:=fun c ob xs q=>b.frzs c ob xs (a.frzs c ob xs q)
 tbls:=fun c ps q=>by
  obtain ⟨m1,e1⟩:=a.tbls c ps q
  obtain ⟨m2,e2⟩:=b.tbls c _ e1
  exact ⟨m1 ++ m2,by rw [e2,Array.append_assoc]⟩
theorem Un.kept (k:∀ b u,h.get? b=some u→h'.get? b=some u):Un fs ex H H h h' :=
 ⟨fun b ob q _ _ _=>k b ob q,fun b ob q _ _ _=>⟨ob.slots,k b ob q⟩,fun _ _ _ n _=>n,fun b ob q _=>⟨ob,k b ob q⟩,fun _ _ q=>q,fun _ _ _ q=>q,fun _ ps q=>⟨#[],by rw [q];simp⟩⟩
theorem Un.refl:Un fs ex H H h h:=Un.kept fun _ _ q=>q
theorem Un.laid (k:∀ b u,h.get? b=some u→h'.get? b=some u) (hp:h.objs.size ≤ a) (hn:H a=none):Un fs ex H (upd H a o) h h' where
 keep:=fun b u q _ _ _=>k b u q
 slot:=fun b u q _ _ _=>⟨u.slots,k b u q⟩
 free:=fun b u q n _=>by rw [zaj (Nat.ne_of_lt (Nat.lt_of_lt_of_le (Heap.lt_size q) hp))];exact n
 there:=fun b u q _=>⟨u,k b u q⟩
 tups:=fun b xs q=>by rw [zaj (zaB q hn)];exact q
 frzs:=fun b u xs q=>by rw [zaj (zaB q hn)];exact q
 tbls:=fun b ps q=>⟨#[],by rw [zaj (zaB q hn),q];simp⟩
theorem Un.write (mu:Mut (H x)) (he:e=x∨H e=some (.own x)) (k:∀ b u,b ≠ e→h.get? b=some u→h'.get? b=some u) (heo:∃ u,h'.get? e=some u):Un fs ex H (upd H x o) h h':=by
 have hx:∀ b,H b=none→b ≠ x:=fun b n z=>by subst z;rw [n] at mu;exact mu
 have hb:∀ b,H b=none→b ≠ e:=fun b n z=>by
  subst z
  rcases he with r | r
  ·exact hx b n r
  ·rw [n] at r;cases r
 have hm:∀ b u,H b=some u→¬ Mut (some u)→b ≠ x:=fun b u q nm z=>by subst z;rw [q] at mu;exact nm mu
 refine ⟨fun b u q n _ _=>k b u (hb b n) q,fun b u q n _ _=>⟨u.slots,k b u (hb b n) q⟩,fun b u q n _=>by rw [zaj (hx b n)];exact n,fun b u q _=>?_,
  fun b xs q=>by rw [zaj (hm b _ q fun z=>z)];exact q,fun b u xs q=>by rw [zaj (hm b _ q fun z=>z)];exact q,fun b ps q=>⟨#[],by rw [zaj (hm b _ q fun z=>z),q];simp⟩⟩
 by_cases hbe:b=e
 ·subst hbe;exact heo
 ·exact ⟨u,k b u hbe q⟩
theorem Un.mono (u:Un fs ex H H1 h h1) (hs:∀ b ∈ fs,b ∈ fs') (hx:∀ b ∈ ex,b ∈ ex'):Un fs' ex' H H1 h h1 :=
 ⟨fun b ob q n hb he=>u.keep b ob q n (fun z=>hb (hs b z)) fun z=>he (hx b z),fun _ _ q n _ he=>u.any q n fun z=>he (hx _ z),fun b ob q n he=>u.free b ob q n fun z=>he (hx b z),fun b ob q he=>u.there b ob q fun z=>he (hx b z),u.tups,u.frzs,u.tbls⟩
end
def trk (h:Heap) (H:Hp):List Addr:=(List.range h.objs.size).filter fun a=>(H a).isSome
def hidT (h:Heap) (H:Hp):Heap:=PySem.W.hideAll h (trk h H)
theorem zj1 (h:Heap) (H:Hp):(hidT h H).objs.size=h.objs.size:=PySem.W.hideAll_size _ _
theorem zmg {h:Heap} {H:Hp} {b:Addr} {o:Obj} (e:h.get? b=some o) (n:H b=none):(hidT h H).get? b=some o :=
 PySem.W.hideAll_get _ e fun hm=>by
  have q:(H b).isSome=true:=(List.mem_filter.mp hm).2
  rw [n] at q;simp at q
theorem znc {h:Heap} {H:Hp} {b:Addr} {o:Obj} (e:(hidT h H).get? b=some o):h.get? b=some o∧H b=none:=by
 have e':h.get? b=some o:=PySem.W.of_hideAll (trk h H) e
 refine ⟨e',?_⟩
 cases q:H b with
 | none=>rfl
 | some x =>
  have hm:b ∈ trk h H:=List.mem_filter.mpr ⟨List.mem_range.mpr (Heap.lt_size e'),by simp [q]⟩
  have z:(hidT h H).get? b=none:=PySem.W.hideAll_none (trk h H) hm
  rw [z] at e;cases e
def zfj (g h:Heap) (L:Addr):List (Addr × Obj):=(List.range h.objs.size).filterMap fun a=>if a=L∨(g.get? a).isSome=true then none else (h.get? a).map fun o=>(a,o)
theorem zh7 {g h:Heap} {L a:Addr} {o:Obj} (h1:a ≠ L) (h2:g.get? a=none) (h3:h.get? a=some o):(a,o) ∈ zfj g h L :=
 List.mem_filterMap.mpr ⟨a,List.mem_range.mpr (Heap.lt_size h3),by simp [h1,h2,h3]⟩
theorem zfW {g h:Heap} {L:Addr} {p:Addr × Obj} (hp:p ∈ zfj g h L):p.1 ≠ L∧g.get? p.1=none∧h.get? p.1=some p.2:=by
 obtain ⟨b,_,e⟩:=List.mem_filterMap.mp hp
 split at e
 ·cases e
 ·rename_i hn
  cases q:h.get? b with
  | none=>rw [q] at e;simp at e
  | some u =>
   rw [q] at e
   simp only [Option.map_some,Option.some.injEq] at e
   subst e
   refine ⟨fun z=>hn (.inl z),?_,q⟩
   show g.get? b=none
   cases r:g.get? b with
   | none=>rfl
   | some v=>exact (hn (.inr (by simp [r]))).elim
def rest (g h:Heap) (L d:Addr):List (Addr × Obj):=(zfj g h L).filter fun p=>decide (p.1 ≠ d)
theorem ze3 {g h:Heap} {L:Addr}:News g L h (zfj g h L):=fun p hp=>let ⟨a,b,c⟩:=zfW hp; ⟨c,a,b⟩
end L2
namespace L2
open PySem PySem.Spec PyProof.Rows
structure Mod (K:PySem.W.Frag) (mg:Str→Option Value) (base:Heap):Prop where
 kin:K.In base
 glob:base.Ns mainGlobals mg
 blt:∃ mb,base.Ns builtinsNs mb∧∀ x:Str,x ≠ "__name__"→mb x=bootBuiltins x
 nolimit:base.NoLimit
structure Cx where
 prog:Program
 w:World
 K:PySem.W.Frag
 mg:Str→Option Value
 base:Heap
 A:Around
 N:List Str
 s₀:Shared
 H₀:Hp
 env:Env
 outer:List Env
 stack:List Env
 ex:List Addr
 fn:Str→Bool
 calm:Bool
 pn:List (Addr × Obj)
 xe:Value→Shared→Prop
def frs (l:List Env):List Addr:=l.filterMap (·.frame)
abbrev Cx.fs (X:Cx):List Addr:=frs X.outer
def Vis (sc:Scope) (x:Str):Prop:=sc.names.lookup x=some .local∨sc.names.lookup x=some .cell∨sc.names.lookup x=some .free
def Loc (sc:Scope) (x:Str):Prop:=sc.names.lookup x=some .local∨sc.names.lookup x=some .cell
def Look (env:Env) (h:Heap) (m:Str→Option Value) (x:Str) (u:Value):Prop :=
 (env.kindOf x=some .local∧m x=some u)∨((env.kindOf x=some .cell∨env.kindOf x=some .free)∧∃ c,env.cells.lookup x=some c∧h.IsCell c (some u))
structure Cx.Ok (X:Cx):Prop where
 mod:Mod X.K X.mg X.base
 kind:X.env.scope.kind = .function
 glob:X.env.globals=mainGlobals
 blt:X.env.builtins=builtinsNs
 above:X.s₀.heap.objs.size ≤ X.env.locals
 inj:∀ x y c,X.env.cells.lookup x=some c→X.env.cells.lookup y=some c→x=y
 has:∀ x,(X.env.kindOf x=some .cell∨X.env.kindOf x=some .free)→∃ c,X.env.cells.lookup x=some c
 cab:∀ x c,X.fn x=true→X.env.cells.lookup x=some c→X.s₀.heap.objs.size ≤ c
 hd:X.calm=true→X.A.handled=none
 frames:X.A.frames=some X.stack
 stk:X.stack=X.outer∨(X.stack=X.env :: X.outer∧X.env.frame=some X.env.locals)
 exf:∀ b ∈ X.ex,b ≠ X.env.locals∧∀ x c,X.env.cells.lookup x=some c→c ≠ b
 bs:∀ b o,X.base.get? b=some o→X.s₀.heap.get? b=some o∧X.H₀ b=none
 bsz:X.base.objs.size ≤ X.s₀.heap.objs.size
 noex:∀ b o,X.base.get? b=some o→b ∉ X.ex
 exfs:∀ b ∈ X.ex,b ∉ X.fs
 funs:X.s₀.heap.FunFrames X.base X.outer
 frf:∀ b ∈ X.fs,X.H₀ b=none
structure Inv (X:Cx) (pins:List (Addr × Obj)) (σ:List (Option V)) (H:Hp) (s:Shared):Prop where
 ok:X.Ok
 os:s.os=X.s₀.os
 bare:AllBare s.gens
 base:Un X.fs X.ex X.H₀ H X.s₀.heap s.heap
 loc:∃ m,s.heap.Ns X.env.locals m∧∀ (i:Nat) (x:Str) (v:V),X.N[i]? = some x→σ[i]? = some (some v)→Vis X.env.scope x→∃ u,RelV v u∧Look X.env s.heap m x u
 cell:∀ x c,X.env.cells.lookup x=some c→∃ v,s.heap.IsCell c v
 free:H X.env.locals=none
 freeC:∀ x c,X.env.cells.lookup x=some c→H c=none
 pin:∀ p ∈ X.pn ++ pins,s.heap.get? p.1=some p.2∧H p.1=none∧p.1 ≠ X.env.locals∧p.1 ∉ X.fs∧∀ v,p.2.data ≠ .cell v
 hok:HOk X.prog X.w H s.heap
 len:σ.length=X.N.length
section
variable {X:Cx} {pins:List (Addr × Obj)} {σ:List (Option V)} {H H':Hp} {s:Shared} {h':Heap}
theorem Cx.Ok.nofr (ok:X.Ok) {b:Addr} {o:Obj} (e:X.base.get? b=some o):b ∉ X.fs:=fun hb=>by
 have:=(ok.funs.mem hb).1
 rw [e] at this;cases this
theorem Inv.bs (I:Inv X pins σ H s):∀ b o,X.base.get? b=some o→s.heap.get? b=some o∧H b=none:=fun b o e =>
 ⟨I.base.keep b o (I.ok.bs b o e).1 (I.ok.bs b o e).2 (I.ok.nofr e) (I.ok.noex b o e),I.base.free b o (I.ok.bs b o e).1 (I.ok.bs b o e).2 (I.ok.noex b o e)⟩
theorem Inv.bk (I:Inv X pins σ H s):∀ b o,X.base.get? b=some o→s.heap.get? b=some o:=fun b o e=>(I.bs b o e).1
theorem Inv.mod (I:Inv X pins σ H s):Mod X.K X.mg X.base:=I.ok.mod
theorem Inv.kIn (I:Inv X pins σ H s):X.K.In s.heap:=I.ok.mod.kin.keeps I.bk
theorem Inv.nolimit (I:Inv X pins σ H s):s.heap.NoLimit:=I.ok.mod.nolimit.keeps I.bk
theorem Inv.lt (I:Inv X pins σ H s):X.env.locals < s.heap.objs.size:=let ⟨_,hn,_⟩:=I.loc;hn.lt
theorem Inv.sz (I:Inv X pins σ H s):X.s₀.heap.objs.size ≤ s.heap.objs.size:=Nat.le_trans I.ok.above (Nat.le_of_lt I.lt)
theorem Inv.nofs (I:Inv X pins σ H s) {a:Addr} (h:s.heap.objs.size ≤ a):a ∉ X.fs:=fun hb=>by
 obtain ⟨_,o,ho,_⟩:=I.ok.funs.mem hb
 exact absurd (Nat.lt_of_lt_of_le (Heap.lt_size ho) (Nat.le_trans I.sz h)) (Nat.lt_irrefl _)
theorem Inv.cne (I:Inv X pins σ H s):∀ x c,X.env.cells.lookup x=some c→c ≠ X.env.locals:=fun x c e z=>by
 obtain ⟨v,o,ho,hd⟩:=I.cell x c e
 obtain ⟨m,⟨o',es,ep,ho',hd',_⟩,_⟩:=I.loc
 rw [z,ho'] at ho;cases ho;rw [hd'] at hd;cases hd
theorem Inv.funs (I:Inv X pins σ H s):s.heap.FunFrames X.base X.outer:=by
 have all:∀ (l:List Env),(∀ b ∈ frs l,b ∈ X.fs)→X.s₀.heap.FunFrames X.base l→s.heap.FunFrames X.base l:=by
  intro l
  induction l with
  | nil=>intro _ _;trivial
  | cons env r ih =>
   intro hs hl
   obtain ⟨hk,⟨L,o,hf,hn,ho,hd⟩,hr⟩:=hl
   have hL:L ∈ X.fs:=hs L (by unfold frs;rw [List.filterMap_cons,hf];exact List.mem_cons_self)
   obtain ⟨sl,e⟩:=I.base.slot L o ho (I.ok.frf L hL) hL fun z=>I.ok.exfs L z hL
   exact ⟨hk,⟨L,_,hf,hn,e,hd⟩,ih (fun b hb=>hs b (by unfold frs;rw [List.filterMap_cons,hf];exact List.mem_cons_of_mem _ hb)) hr⟩
 exact all X.outer (fun _ hb=>hb) I.ok.funs
theorem Inv.stack (I:Inv X pins σ H s):s.heap.FunFrames X.base X.stack:=by
 rcases I.ok.stk with e | ⟨e,hf⟩
 ·rw [e];exact I.funs
 ·rw [e]
  obtain ⟨m,hn,_⟩:=I.loc
  refine .cons (by rw [I.ok.kind];decide) hf hn ?_ I.funs
  exact Heap.get?_none_of_le (Nat.le_trans I.ok.bsz I.ok.above)
theorem Inv.zga (I:Inv X pins σ H s):∀ b ∈ frs X.stack,b ∈ X.env.locals :: X.fs:=fun b hb=>by
 rcases I.ok.stk with e | ⟨e,hf⟩
 ·rw [e] at hb;exact List.mem_cons_of_mem _ hb
 ·rw [e] at hb
  unfold frs at hb
  rw [List.filterMap_cons,hf] at hb
  exact hb
theorem Inv.zh3 (I:Inv X pins σ H s):∀ b ∈ frs X.stack,H b=none:=fun b hb=>by
 rcases List.mem_cons.mp (I.zga b hb) with e | hb
 ·rw [e];exact I.free
 ·obtain ⟨_,o,ho,_⟩:=I.ok.funs.mem hb
  exact I.base.free b o ho (I.ok.frf b hb) fun z=>I.ok.exfs b z hb
theorem Inv.step {g':Array GenState} {t':Nat} {d':Drawn} {ch:List Addr} (I:Inv X pins σ H s)
  (hch:∀ b ∈ ch,(b ∈ X.ex∨X.s₀.heap.objs.size ≤ b)∧b ≠ X.env.locals∧(∀ x c,X.env.cells.lookup x=some c→c ≠ b)∧∀ p ∈ X.pn ++ pins,p.1 ≠ b)
  (keep:∀ b o,b ≠ X.env.locals→b ∉ X.fs→b ∉ ch→s.heap.get? b=some o→H b=none→h'.get? b=some o)
  (slot:∀ b o,b ≠ X.env.locals→b ∈ X.fs→b ∉ ch→s.heap.get? b=some o→H b=none→∃ sl,h'.get? b=some { o with slots:=sl }) (free:∀ b o,b ∉ ch→s.heap.get? b=some o→H b=none→H' b=none)
  (there:∀ b o,b ∉ ch→s.heap.get? b=some o→∃ o',h'.get? b=some o')
  (tups:∀ b xs,H b=some (.tup xs)→H' b=some (.tup xs)) (frzs:∀ b o u,H b=some (.frz o u)→H' b=some (.frz o u)) (tbls:∀ b ps,H b=some (.tbl ps)→∃ more,H' b=some (.tbl (ps ++ more)))
  (ns:∀ m,s.heap.Ns X.env.locals m→h'.Ns X.env.locals m) (hok:HOk X.prog X.w H' h') (hg:AllBare g') :
  Inv X pins σ H' { s with heap:=h',gens:=g',drawn:=d',toks:=t' }:=by
 have neL:∀ b o,X.s₀.heap.get? b=some o→b ≠ X.env.locals:=fun b o e=>Nat.ne_of_lt (Nat.lt_of_lt_of_le (Heap.lt_size e) I.ok.above)
 have neC:∀ b o,X.s₀.heap.get? b=some o→b ∉ X.ex→b ∉ ch:=fun b o e hx hb=>by
  rcases (hch b hb).1 with z | z
  ·exact hx z
  ·exact absurd (Nat.lt_of_lt_of_le (Heap.lt_size e) z) (Nat.lt_irrefl _)
 have cellK:∀ x c,X.env.cells.lookup x=some c→∀ v,s.heap.IsCell c v→h'.IsCell c v:=fun x c e v ⟨o,ho,hd⟩=>by
  have nch:c ∉ ch:=fun z=>(hch c z).2.2.1 x c e rfl
  by_cases hc:c ∈ X.fs
  ·obtain ⟨sl,q⟩:=slot c o (I.cne x c e) hc nch ho (I.freeC x c e)
   exact ⟨_,q,hd⟩
  ·exact ⟨o,keep c o (I.cne x c e) hc nch ho (I.freeC x c e),hd⟩
 refine ⟨I.ok,I.os,hg,⟨fun b o e n hb hx=>?_,fun b o e n hb hx=>?_,fun b o e n hx=>?_,fun b o e hx=>?_,fun b xs e=>tups b xs (I.base.tups b xs e),fun b o xs e=>frzs b o xs (I.base.frzs b o xs e),fun b ps e=>?_⟩,?_,fun x c e=>?_,?_,fun x c e=>?_,fun p hp=>?_,hok,I.len⟩
 ·exact keep b o (neL b o e) hb (neC b o e hx) (I.base.keep b o e n hb hx) (I.base.free b o e n hx)
 ·obtain ⟨sl,e1⟩:=I.base.slot b o e n hb hx
  obtain ⟨sl',e2⟩:=slot b _ (neL b o e) hb (neC b o e hx) e1 (I.base.free b o e n hx)
  exact ⟨sl',e2⟩
 ·obtain ⟨o',e1⟩:=I.base.there b o e hx
  exact free b o' (neC b o e hx) e1 (I.base.free b o e n hx)
 ·obtain ⟨o',e1⟩:=I.base.there b o e hx
  exact there b o' (neC b o e hx) e1
 ·obtain ⟨m1,e1⟩:=I.base.tbls b ps e
  obtain ⟨m2,e2⟩:=tbls b _ e1
  exact ⟨m1 ++ m2,by rw [e2,Array.append_assoc]⟩
 ·obtain ⟨m,hn,hl⟩:=I.loc
  refine ⟨m,ns m hn,fun i x v e1 e2 e3=>?_⟩
  obtain ⟨u,r,l⟩:=hl i x v e1 e2 e3
  refine ⟨u,r,?_⟩
  rcases l with l | ⟨k,c,e,z⟩
  ·exact .inl l
  ·exact .inr ⟨k,c,e,cellK x c e _ z⟩
 ·obtain ⟨v,z⟩:=I.cell x c e
  exact ⟨v,cellK x c e v z⟩
 ·obtain ⟨m,⟨o,_,_,ho,_⟩,_⟩:=I.loc
  exact free _ o (fun z=>(hch _ z).2.1 rfl) ho I.free
 ·obtain ⟨v,o,ho,hd⟩:=I.cell x c e
  exact free c o (fun z=>(hch c z).2.2.1 x c e rfl) ho (I.freeC x c e)
 ·obtain ⟨e,n,ne,nf,d⟩:=I.pin p hp
  have nch:p.1 ∉ ch:=fun z=>(hch p.1 z).2.2.2 p hp rfl
  exact ⟨keep p.1 p.2 ne nf nch e n,free p.1 p.2 nch e n,ne,nf,d⟩
theorem Inv.un {t':Nat} (I:Inv X pins σ H s) (u:Un X.fs [] H H' s.heap h') (hok:HOk X.prog X.w H' h'):Inv X pins σ H' { s with heap:=h',toks:=t' }:=by
 obtain ⟨m,⟨o,es,ep,ho,r⟩,_⟩:=id I.loc
 obtain ⟨sl,hL⟩:=u.any ho I.free (by simp)
 exact I.step (g':=s.gens) (d':=s.drawn) (ch:=[]) (fun _ z=>nomatch z) (fun b o _ hb _ e n=>u.keep b o e n hb (by simp)) (fun b o _ hb _ e n=>u.slot b o e n hb (by simp)) (fun b o _ e n=>u.free b o e n (by simp)) (fun b o _ e=>u.there b o e (by simp)) u.tups u.frzs u.tbls (fun m' hm=>by
  obtain ⟨o',es',ep',ho',r'⟩:=hm
  rw [ho] at ho';cases ho'
  exact ⟨_,es',ep',hL,r'⟩) hok I.bare
theorem Inv.call {g':Array GenState} {t':Nat} {d':Drawn} {ch:List Addr} (I:Inv X pins σ H s) (u:Un (frs X.stack) ch H H' s.heap h') (hok:HOk X.prog X.w H' h') (hg:AllBare g')
  (hch:∀ b ∈ ch,(b ∈ X.ex∨X.s₀.heap.objs.size ≤ b)∧b ≠ X.env.locals∧(∀ x c,X.env.cells.lookup x=some c→c ≠ b)∧∀ p ∈ X.pn ++ pins,p.1 ≠ b) :
  Inv X pins σ H' { s with heap:=h',gens:=g',drawn:=d',toks:=t' }:=by
 obtain ⟨m,⟨o,es,ep,ho,r⟩,_⟩:=id I.loc
 obtain ⟨sl,hL⟩:=u.any ho I.free fun z=>(hch _ z).2.1 rfl
 exact I.step (ch:=ch) hch (fun b o hL hb hc e n=>u.keep b o e n (fun z=>(List.mem_cons.mp (I.zga b z)).elim hL hb) hc) (fun b o _ _ hc e n=>u.any e n hc) (fun b o hc e n=>u.free b o e n hc) (fun b o hc e=>u.there b o e hc) u.tups u.frzs u.tbls (fun m' hm=>by
  obtain ⟨o',es',ep',ho',r'⟩:=hm
  rw [ho] at ho';cases ho'
  exact ⟨_,es',ep',hL,r'⟩) hok hg
theorem Inv.turned {t':Nat} {it:Addr} (I:Inv X pins σ H s) (k:∀ b o,b ≠ it→s.heap.get? b=some o→h'.get? b=some o) (hn:H it=none) (hL:it ≠ X.env.locals)
  (h1:it ∈ X.ex∨X.s₀.heap.objs.size ≤ it) (h2:∀ x c,X.env.cells.lookup x=some c→c ≠ it) (h3:∀ p ∈ X.pn ++ pins,p.1 ≠ it):Inv X pins σ H { s with heap:=h',toks:=t' }:=by
 have nit:∀ b u,H b=some u→b ≠ it:=fun b u e z=>by rw [z,hn] at e;cases e
 refine I.step (g':=s.gens) (d':=s.drawn) (ch:=[it]) (fun b hb=>?_) (fun b o _ _ hc e _=>k b o (fun z=>hc (by simp [z])) e) (fun b o _ _ hc e _=>⟨o.slots,k b o (fun z=>hc (by simp [z])) e⟩) (fun _ _ _ _ n=>n)
  (fun b o hc e=>⟨o,k b o (fun z=>hc (by simp [z])) e⟩) (fun _ _ e=>e) (fun _ _ _ e=>e) (fun b ps e=>⟨#[],by rw [e];simp⟩) (fun m hm=>?_) (fun b u e=>?_) I.bare
 ·have e:b=it:=by simpa using hb
  subst e
  exact ⟨h1,hL,h2,h3⟩
 ·obtain ⟨o,es,ep,ho,r⟩:=hm
  exact ⟨o,es,ep,k _ o (Ne.symm hL) ho,r⟩
 ·refine (I.hok b u e).stay (fun c v hc q=>k c v ?_ q) (fun _ q=>q) fun _ _ q=>q
  rcases hc with z | z
  ·rw [z];exact nit b u e
  ·exact nit c _ z
theorem Inv.tok (I:Inv X pins σ H s) (t:Nat):Inv X pins σ H { s with toks:=t }:=I.un (h':=s.heap) (t':=t) Un.refl I.hok
theorem Inv.kept {t':Nat} (I:Inv X pins σ H s) (k:∀ b u,s.heap.get? b=some u→h'.get? b=some u):Inv X pins σ H { s with heap:=h',toks:=t' }:=I.un (Un.kept k) (I.hok.kept k)
theorem Inv.laid {a:Addr} {o:HO} {t':Nat} (I:Inv X pins σ H s) (k:∀ b u,s.heap.get? b=some u→h'.get? b=some u) (hp:s.heap.objs.size ≤ a) (new:zcl X.prog X.w (upd H a o) h' a o) :
  Inv X pins σ (upd H a o) { s with heap:=h',toks:=t' }:=I.un (Un.laid k hp (I.hok.fresh hp)) (I.hok.laid k hp new)
theorem Inv.write {x e:Addr} {o:HO} {t':Nat} (I:Inv X pins σ H s) (mu:Mut (H x)) (he:e=x∨H e=some (.own x)) (k:∀ b u,b ≠ e→s.heap.get? b=some u→h'.get? b=some u) (heo:∃ u,h'.get? e=some u)
  (new:zcl X.prog X.w (upd H x o) h' x o):Inv X pins σ (upd H x o) { s with heap:=h',toks:=t' }:=I.un (Un.write mu he k heo) (I.hok.write mu he k heo new)
theorem Inv.zim {pins':List (Addr × Obj)} (I:Inv X pins σ H s) (h:∀ p ∈ pins',s.heap.get? p.1=some p.2∧H p.1=none∧p.1 ≠ X.env.locals∧p.1 ∉ X.fs∧∀ v,p.2.data ≠ .cell v):Inv X pins' σ H s :=
 ⟨I.ok,I.os,I.bare,I.base,I.loc,I.cell,I.free,I.freeC,fun p hp=>(List.mem_append.mp hp).elim (fun z=>I.pin p (List.mem_append_left _ z)) (h p),I.hok,I.len⟩
theorem zgv {N:List Str} (hN:N.Nodup) {i j:Nat} {x:Str} (a:N[i]? = some x) (b:N[j]? = some x):i=j:=by
 obtain ⟨h1,e1⟩:=List.getElem?_eq_some_iff.mp a
 obtain ⟨h2,e2⟩:=List.getElem?_eq_some_iff.mp b
 exact (List.getElem_inj hN).mp (e1.trans e2.symm)
theorem zlb {M:Model} {A:Around} {E:Value→Shared→Prop} {i:Nat} {x:Str} {v:V} {u:Value} {Q:Unit→Shared→Prop} (I:Inv X pins σ H s) (hN:X.N.Nodup) (hi:X.N[i]? = some x) (hx:Loc X.env.scope x) (r:RelV v u)
  (h:∀ s',Inv X pins (σ.set i (some v)) H s'→(∃ a,Heap.SameBut a s.heap s'.heap∧(a=X.env.locals∨X.env.cells.lookup x=some a))→Q () s') (hf:X.fn x=true∨X.env.scope.names.lookup x=some .local:=by first | exact .inl rfl | exact .inr rfl | assumption):wpAny M A (storeName X.env x u) Q E s:=by
 obtain ⟨m,hn,hl⟩:=id I.loc
 have hcls:(X.env.scope.kind == .class || (X.env.scope.kind == .module && X.env.locals != X.env.globals))=false:=by rw [I.ok.kind];rfl
 have hiσ:i < σ.length:=by rw [I.len];exact (List.getElem?_eq_some_iff.mp hi).1
 have cne:=I.cne
 have tracked:∀ {a:Addr} {h':Heap},(∃ o,s.heap.get? a=some o∧H a=none)→Heap.SameBut a s.heap h'→HOk X.prog X.w H h':=fun {a h'} ha hs b ob e=>by
  obtain ⟨_,_,hfree⟩:=ha
  refine (I.hok b ob e).stay (fun c w' hc q=>(hs.2 c ?_).trans q) (fun _ q=>q) fun _ _ q=>q
  rintro rfl
  rcases hc with rfl | hc
  ·rw [hfree] at e;cases e
  ·rw [hfree] at hc;cases hc
 rcases hx with hk | hk
 ·refine wpAny_storeName_local hk hn (fun h' hn' hs=>?_) hcls
  obtain ⟨oL,_,_,hoL,_⟩:=id hn
  refine h _ ⟨I.ok,I.os,I.bare,⟨fun b o e n hb hx=>?_,fun b o e n hb hx=>?_,I.base.free,fun b o e hx=>?_,I.base.tups,I.base.frzs,I.base.tbls⟩,⟨_,hn',fun j y v' e1 e2 e3=>?_⟩,fun y c e=>?_,I.free,I.freeC,fun p hp=>?_,tracked ⟨oL,hoL,I.free⟩ hs,by simpa using I.len⟩ ⟨_,hs, .inl rfl⟩
  ·exact (hs.2 b (Nat.ne_of_lt (Nat.lt_of_lt_of_le (Heap.lt_size e) I.ok.above))).trans (I.base.keep b o e n hb hx)
  ·obtain ⟨sl,e1⟩:=I.base.slot b o e n hb hx
   exact ⟨sl,(hs.2 b (Nat.ne_of_lt (Nat.lt_of_lt_of_le (Heap.lt_size e) I.ok.above))).trans e1⟩
  ·obtain ⟨o',e1⟩:=I.base.there b o e hx
   exact ⟨o',(hs.2 b (Nat.ne_of_lt (Nat.lt_of_lt_of_le (Heap.lt_size e) I.ok.above))).trans e1⟩
  ·by_cases hj:j=i
   ·subst hj
    rw [hi] at e1;cases e1
    rw [List.getElem?_set_self hiσ] at e2
    cases e2
    exact ⟨u,r, .inl ⟨hk,by simp⟩⟩
   ·rw [List.getElem?_set_ne (Ne.symm hj)] at e2
    obtain ⟨u',r',q⟩:=hl j y v' e1 e2 e3
    refine ⟨u',r',?_⟩
    rcases q with ⟨k,e⟩ | ⟨k,c,e,z⟩
    ·refine .inl ⟨k,?_⟩
     have:y ≠ x:=fun e=>hj (zgv hN e1 (e ▸ hi))
     simp [this,e]
    ·exact .inr ⟨k,c,e,z.sameBut hs (cne y c e)⟩
  ·obtain ⟨w',z⟩:=I.cell y c e
   exact ⟨w',z.sameBut hs (cne y c e)⟩
  ·obtain ⟨e,n,ne,nf,d⟩:=I.pin p hp
   exact ⟨(hs.2 p.1 ne).trans e,n,ne,nf,d⟩
 ·have hfn:X.fn x=true:=by
   rcases hf with z | z
   ·exact z
   ·rw [z] at hk;cases hk
  obtain ⟨c,hc⟩:=I.ok.has x (.inl hk)
  obtain ⟨w',z⟩:=I.cell x c hc
  refine wpAny_storeName_cell I.ok.kind hk hc z (fun h' hc' hs=>?_)
  obtain ⟨oc,hoc,hocd⟩:=id z
  refine h { s with heap:=h' } ⟨I.ok,I.os,I.bare,⟨fun b o e n hb hx=>?_,fun b o e n hb hx=>?_,I.base.free,fun b o e hx=>?_,I.base.tups,I.base.frzs,I.base.tbls⟩,⟨m,hn.sameBut hs (Ne.symm (cne x c hc)),fun j y v' e1 e2 e3=>?_⟩,fun y c' e=>?_,I.free,I.freeC,fun p hp=>?_,tracked ⟨oc,hoc,I.freeC x c hc⟩ hs,by simpa using I.len⟩ ⟨c,hs, .inr hc⟩
  ·exact (hs.2 b (Nat.ne_of_lt (Nat.lt_of_lt_of_le (Heap.lt_size e) (I.ok.cab x c hfn hc)))).trans (I.base.keep b o e n hb hx)
  ·obtain ⟨sl,e1⟩:=I.base.slot b o e n hb hx
   exact ⟨sl,(hs.2 b (Nat.ne_of_lt (Nat.lt_of_lt_of_le (Heap.lt_size e) (I.ok.cab x c hfn hc)))).trans e1⟩
  ·obtain ⟨o',e1⟩:=I.base.there b o e hx
   exact ⟨o',(hs.2 b (Nat.ne_of_lt (Nat.lt_of_lt_of_le (Heap.lt_size e) (I.ok.cab x c hfn hc)))).trans e1⟩
  ·by_cases hj:j=i
   ·subst hj
    rw [hi] at e1;cases e1
    rw [List.getElem?_set_self hiσ] at e2
    cases e2
    exact ⟨u,r, .inr ⟨.inl hk,c,hc,hc'⟩⟩
   ·rw [List.getElem?_set_ne (Ne.symm hj)] at e2
    obtain ⟨u',r',q⟩:=hl j y v' e1 e2 e3
    refine ⟨u',r',?_⟩
    rcases q with q | ⟨k,c',e,z'⟩
    ·exact .inl q
    ·refine .inr ⟨k,c',e,z'.sameBut hs ?_⟩
     rintro rfl
     exact hj (zgv hN e1 (I.ok.inj _ _ _ e hc ▸ hi))
  ·by_cases hcc:c'=c
   ·subst hcc;exact ⟨_,hc'⟩
   ·obtain ⟨w2,z2⟩:=I.cell y c' e
    exact ⟨w2,z2.sameBut hs hcc⟩
  ·obtain ⟨e,n,ne,nf,d⟩:=I.pin p hp
   refine ⟨(hs.2 p.1 ?_).trans e,n,ne,nf,d⟩
   intro q
   rw [q,hoc] at e
   have q':oc=p.2:=Option.some.inj e
   exact d w' (by rw [← q'];exact hocd)
theorem zdE {M:Model} {A:Around} {E:Value→Shared→Prop} {i:Nat} {x:Str} {v:V} {u:Value} {Q:Unit→Shared→Prop} (I:Inv X pins σ H s) (hN:X.N.Nodup) (hi:X.N[i]? = some x) (hx:Loc X.env.scope x) (r:RelV v u)
  (h:∀ s',Inv X pins (σ.set i (some v)) H s'→Q () s') (hf:X.fn x=true∨X.env.scope.names.lookup x=some .local:=by first | exact .inl rfl | exact .inr rfl | assumption):wpAny M A (storeName X.env x u) Q E s :=
 zlb I hN hi hx r (fun s' I' _=>h s' I') hf
theorem Inv.zod {s':Shared} {ch:List Addr} (I:Inv X pins σ H s) (ho:s'.os=s.os) (u:Un (frs X.stack) ch H H' s.heap s'.heap) (hok:HOk X.prog X.w H' s'.heap) (hg:AllBare s'.gens)
  (hch:∀ b ∈ ch,(b ∈ X.ex∨X.s₀.heap.objs.size ≤ b)∧b ≠ X.env.locals∧(∀ x c,X.env.cells.lookup x=some c→c ≠ b)∧∀ p ∈ X.pn ++ pins,p.1 ≠ b):Inv X pins σ H' s':=by
 obtain ⟨h',g',d',t',o'⟩:=s'
 have e:o'=s.os:=ho
 subst e
 exact I.call (g':=g') (t':=t') (d':=d') u hok hg hch
end
abbrev XK:=Value→Option Addr→Hp→Prop
abbrev St:=List (Option V)
abbrev VK:=V→Hp→Prop
abbrev TE:=St→Hp→VK→Prop
abbrev TT:=St→Hp→(Bool→Hp→Prop)→Prop
abbrev TA:=St→Hp→(List V→Hp→Prop)→Prop
structure Ends where
 nx:St→Hp→Prop
 rt:VK
 bk:St→Hp→Prop:=fun _ _=>False
 ct:St→Hp→Prop:=fun _ _=>False
abbrev TS:=Ends→St→Hp→Prop
def EP (X:Cx) (pins:List (Addr × Obj)) (σ:St) (Q:VK) (u:Value) (s':Shared):Prop:=∃ v H',Inv X pins σ H' s'∧RelV v u∧Q v H'
def TP (X:Cx) (pins:List (Addr × Obj)) (σ:St) (Q:Bool→Hp→Prop) (b:Bool) (s':Shared):Prop:=∃ H',Inv X pins σ H' s'∧Q b H'
def AP (X:Cx) (pins:List (Addr × Obj)) (σ:St) (Q:List V→Hp→Prop) (us:List Value) (s':Shared):Prop:=∃ vs H',Inv X pins σ H' s'∧Vals vs us∧Q vs H'
def SP (X:Cx) (pins:List (Addr × Obj)) (D:Ends) (f:Flow) (s':Shared):Prop :=
 match f with
 | .next=>∃ σ' H',Inv X pins σ' H' s'∧D.nx σ' H'
 | .brk=>∃ σ' H',Inv X pins σ' H' s'∧D.bk σ' H'
 | .cont=>∃ σ' H',Inv X pins σ' H' s'∧D.ct σ' H'
 | .ret u=>∃ v σ' H',Inv X pins σ' H' s'∧RelV v u∧D.rt v H'
def PE (X:Cx) (e:Expr) (t:TE):Prop :=
 ∀ (pins:List (Addr × Obj)) (s:Shared) (σ:St) (H:Hp) (Q:VK),Inv X pins σ H s→t σ H Q→wpAny (model X.prog X.w) X.A (eval e X.env) (EP X pins σ Q) X.xe s
def PT (X:Cx) (e:Expr) (t:TT):Prop :=
 ∀ (pins:List (Addr × Obj)) (s:Shared) (σ:St) (H:Hp) (Q:Bool→Hp→Prop),Inv X pins σ H s→t σ H Q→wpAny (model X.prog X.w) X.A (isTrue e X.env (eval e X.env)) (TP X pins σ Q) X.xe s
def PW (X:Cx) (e:Expr) (t:TT):Prop :=
 ∀ (whole:Sem Value) (pins:List (Addr × Obj)) (s:Shared) (σ:St) (H:Hp) (Q:Bool→Hp→Prop),Inv X pins σ H s→t σ H Q→wpAny (model X.prog X.w) X.A (isTrue e X.env whole) (TP X pins σ Q) X.xe s
theorem PW.pt {X:Cx} {e:Expr} {t:TT} (h:PW X e t):PT X e t:=h _
def PA (X:Cx) (es:List Expr) (t:TA):Prop :=
 ∀ (pos:Pos) (pins:List (Addr × Obj)) (s:Shared) (σ:St) (H:Hp) (Q:List V→Hp→Prop),Inv X pins σ H s→t σ H Q→wpAny (model X.prog X.w) X.A (spliced (backTo pos (starEach es X.env))) (AP X pins σ Q) X.xe s
def PS (X:Cx) (st:Stmt) (t:TS):Prop :=
 ∀ (pins:List (Addr × Obj)) (s:Shared) (σ:St) (H:Hp) (D:Ends),Inv X pins σ H s→t D σ H→wpAny (model X.prog X.w) X.A (exec st X.env) (SP X pins D) X.xe s
def PSs (X:Cx) (st:List Stmt) (t:TS):Prop :=
 ∀ (pins:List (Addr × Obj)) (s:Shared) (σ:St) (H:Hp) (D:Ends),Inv X pins σ H s→t D σ H→wpAny (model X.prog X.w) X.A (execs st X.env) (SP X pins D) X.xe s
theorem thn {α:Type} {t:Sem α} {Q Q':α→Shared→Prop} {M:Model} {A:Around} {E:Value→Shared→Prop} {s:Shared} (h:wpAny M A t Q E s) (hQ:∀ a s,Q a s→Q' a s):wpAny M A t Q' E s:=wpAny_mono h hQ fun _ _ x=>x
end L2
namespace L2
open PySem PySem.Spec PyProof.Rows
section
variable {X:Cx}
def tVar (i:Nat):TE:=fun σ H Q=>∃ v,σ[i]? = some (some v)∧Q v H
def tC (v:V):TE:=fun _ H Q=>Q v H
theorem zf5 {i:Nat} {x:Str} {pos:Pos} (hN:X.N[i]? = some x) (hv:Vis X.env.scope x) (hd:(x == ("__debug__" : Str))=false:=by decide) (hcd:(x == ("__classdict__" : Str))=false:=by decide):PE X (.Name x pos) (tVar i):=by
 intro pins s σ H Q I h
 obtain ⟨v,e,h⟩:=h
 obtain ⟨m,hn,hl⟩:=I.loc
 obtain ⟨u,r,l⟩:=hl i x v hN e hv
 have fin:EP X pins σ Q u s:=⟨v,H,I,r,h⟩
 rcases l with ⟨hk,hm⟩ | ⟨hk,c,hc,hcell⟩
 ·exact wpAny_Name (wpAny_loadName_local I.ok.kind hk hn hm fin) hd
 ·rcases hk with hk | hk
  ·exact wpAny_Name (wpAny_loadName_cell I.ok.kind hk hc hcell fin) hd
  ·exact wpAny_Name (wpAny_loadName_free I.ok.kind hk hc hcell fin hcd) hd
theorem zpT {i j pos}:PE X (.Constant (.int i) j pos) (tC (.int i)):=fun _ _ _ H _ I h=>wpAny_Constant_int ⟨.int i,H,I.tok _,⟨_,rfl⟩,h⟩
theorem zqS {b j pos}:PE X (.Constant (.bool b) j pos) (tC (.bl b)):=fun _ _ _ H _ I h=>Constant_bool ⟨.bl b,H,I,rfl,h⟩
theorem zpu {j pos}:PE X (.Constant .none j pos) (tC .non):=fun _ _ _ H _ I h=>Constant_none ⟨.non,H,I,rfl,h⟩
theorem zoL {x j pos}:PE X (.Constant (.str x) j pos) (tC (.str x)):=fun _ _ _ H _ I h=>Calls.Constant_str ⟨.str x,H,I.tok _,⟨_,rfl⟩,h⟩
def Gl (X:Cx) (x:Str):Prop:=X.env.kindOf x=some .globalImplicit
theorem zdN {E:Value→Shared→Prop} {pins:List (Addr × Obj)} {s:Shared} {σ:St} {H:Hp} {x:Str} {u:Value} {pos:Pos} {Q:Value→Shared→Prop} (I:Inv X pins σ H s) (hg:Gl X x) (hm:X.mg x=some u) (h:Q u s)
  (hd:(x == ("__debug__" : Str))=false:=by decide):wpAny (model X.prog X.w) X.A (eval (.Name x pos) X.env) Q E s :=
 Calls.Name_function_global I.ok.kind hg (Calls.loadGlobal_global (by rw [I.ok.glob];exact I.mod.glob.keeps I.bk) hm h) hd
theorem zgj {E:Value→Shared→Prop} {pins:List (Addr × Obj)} {s:Shared} {σ:St} {H:Hp} {x:Str} {u:Value} {pos:Pos} {Q:Value→Shared→Prop} (I:Inv X pins σ H s) (hg:Gl X x) (hm:X.mg x=none) (hv:bootBuiltins x=some u) (h:Q u s)
  (hn:x ≠ "__name__":=by decide) (hd:(x == ("__debug__" : Str))=false:=by decide):wpAny (model X.prog X.w) X.A (eval (.Name x pos) X.env) Q E s:=by
 obtain ⟨mb,h1,h2⟩:=I.mod.blt
 exact Calls.Name_function_global I.ok.kind hg (Calls.loadGlobal_builtin (by rw [I.ok.glob];exact I.mod.glob.keeps I.bk) hm (by rw [I.ok.blt];exact h1.keeps I.bk) ((h2 x hn).trans hv) h) hd
theorem zlh {x:Str} {v:V} {u:Value} {pos:Pos} (hg:Gl X x) (hm:X.mg x=some u) (r:RelV v u) (hd:(x == ("__debug__" : Str))=false:=by decide):PE X (.Name x pos) (tC v) :=
 fun _ _ _ H _ I h=>zdN I hg hm ⟨v,H,I,r,h⟩ hd
theorem zmR {x:Str} {v:V} {u:Value} {pos:Pos} (hg:Gl X x) (hm:X.mg x=none) (hv:bootBuiltins x=some u) (r:RelV v u) (hn:x ≠ "__name__":=by decide) (hd:(x == ("__debug__" : Str))=false:=by decide):PE X (.Name x pos) (tC v) :=
 fun _ _ _ H _ I h=>zgj I hg hm hv ⟨v,H,I,r,h⟩ hn hd
variable {a b:Expr} {ta tb:TE} {pos:Pos}
def tB (t:TE):TT:=fun σ H Q=>t σ H fun x H1=>∃ c,x = .bl c∧Q c H1
theorem zoQ {e:Expr} {t:TE} (h:PE X e t) (he:∀ whole,isTrue e X.env whole=(do let v ← whole;standAt e.pos;holding [v] (truthy v)):=by intro _;rfl):PT X e (tB t):=by
 intro pins s σ H Q I hw
 refine isTrue_plain (thn (h pins s σ H _ I hw) fun v s1 ⟨x,H1,I1,r1,q1⟩=>?_) (he _)
 obtain ⟨d,rfl,q⟩:=q1
 cases r1
 exact wpAny_truthy_bool ⟨H1,I1,q⟩
variable {tA tB':TT} {rest:List Expr}
def tAnd (t u:TT):TT:=fun σ H Q=>t σ H fun c H1=>if c=true then u σ H1 Q else Q false H1
def tOr (t u:TT):TT:=fun σ H Q=>t σ H fun c H1=>if c=true then Q true H1 else u σ H1 Q
def tNot (t:TT):TT:=fun σ H Q=>t σ H fun c H1=>Q (!c) H1
theorem pw_and1 (ha:PT X a tA):PW X (.BoolOp .And [a] pos) tA:=by
 intro wh pins s σ H Q I h
 refine isTrue_and (thn (ha pins s σ H Q I h) fun c s1 e=>?_)
 cases c with
 | true=>exact isTrue_and_nil e
 | false=>exact e
theorem pw_or1 (ha:PT X a tA):PW X (.BoolOp .Or [a] pos) tA:=by
 intro wh pins s σ H Q I h
 refine isTrue_or (thn (ha pins s σ H Q I h) fun c s1 e=>?_)
 cases c with
 | false=>exact isTrue_or_nil e
 | true=>exact e
theorem pw_and (ha:PT X a tA) (hb:PW X (.BoolOp .And (b :: rest) pos) tB'):PW X (.BoolOp .And (a :: b :: rest) pos) (tAnd tA tB'):=by
 intro wh pins s σ H Q I h
 refine isTrue_and (thn (ha pins s σ H _ I h) fun c s1 ⟨H1,I1,q1⟩=>?_)
 cases c with
 | true=>exact hb wh pins s1 σ H1 Q I1 q1
 | false=>exact ⟨H1,I1,q1⟩
theorem pw_or (ha:PT X a tA) (hb:PW X (.BoolOp .Or (b :: rest) pos) tB'):PW X (.BoolOp .Or (a :: b :: rest) pos) (tOr tA tB'):=by
 intro wh pins s σ H Q I h
 refine isTrue_or (thn (ha pins s σ H _ I h) fun c s1 ⟨H1,I1,q1⟩=>?_)
 cases c with
 | true=>exact ⟨H1,I1,q1⟩
 | false=>exact hb wh pins s1 σ H1 Q I1 q1
theorem zoP (ha:PT X a tA):PT X (.UnaryOp .Not a pos) (tNot tA):=by
 intro pins s σ H Q I h
 exact isTrue_not (ha pins s σ H (fun c H1=>Q (!c) H1) I h)
def zqp (ta tb:TE):TE:=fun σ H Q=>ta σ H fun x H1=>∃ c,x = .bl c∧if c=true then tb σ H1 Q else Q (.bl false) H1
def tOrV (ta tb:TE):TE:=fun σ H Q=>ta σ H fun x H1=>∃ c,x = .bl c∧if c=true then Q (.bl true) H1 else tb σ H1 Q
def zqW (ta:TE):TE:=fun σ H Q=>ta σ H fun x H1=>∃ c,x = .bl c∧Q (.bl (!c)) H1
theorem zou {op} {t:TE} (h:PE X a t):PE X (.BoolOp op [a] pos) t:=fun pins s σ H Q I hw=>BoolOp_one (h pins s σ H Q I hw)
theorem zpE (ha:PE X a ta) (hb:PE X (.BoolOp .And (b :: rest) pos) tb):PE X (.BoolOp .And (a :: b :: rest) pos) (zqp ta tb):=by
 intro pins s σ H Q I h
 refine BoolOp_and (thn (ha pins s σ H _ I h) fun v s1 ⟨x,H1,I1,r1,q1⟩=>?_)
 obtain ⟨c,rfl,q1⟩:=q1
 cases r1
 refine wpAny_truthy_bool ?_
 cases c with
 | true=>exact hb pins s1 σ H1 Q I1 q1
 | false=>exact ⟨.bl false,H1,I1,rfl,q1⟩
theorem zqr (ha:PE X a ta) (hb:PE X (.BoolOp .Or (b :: rest) pos) tb):PE X (.BoolOp .Or (a :: b :: rest) pos) (tOrV ta tb):=by
 intro pins s σ H Q I h
 refine BoolOp_or (thn (ha pins s σ H _ I h) fun v s1 ⟨x,H1,I1,r1,q1⟩=>?_)
 obtain ⟨c,rfl,q1⟩:=q1
 cases r1
 refine wpAny_truthy_bool ?_
 cases c with
 | false=>exact hb pins s1 σ H1 Q I1 q1
 | true=>exact ⟨.bl true,H1,I1,rfl,q1⟩
theorem zoS (ha:PE X a ta):PE X (.UnaryOp .Not a pos) (zqW ta):=by
 intro pins s σ H Q I h
 refine UnaryOp_ (thn (ha pins s σ H _ I h) fun v s1 ⟨x,H1,I1,r1,q1⟩=>?_)
 obtain ⟨c,rfl,q1⟩:=q1
 cases r1
 exact not_of (wpAny_truthy_bool ⟨.bl (!c),H1,I1,rfl,q1⟩)
def tIf (t:TT) (ta tb:TE):TE:=fun σ H Q=>t σ H fun c H1=>if c=true then ta σ H1 Q else tb σ H1 Q
theorem zl8 {c:Expr} (hc:PT X c tA) (ha:PE X a ta) (hb:PE X b tb):PE X (.IfExp c a b pos) (tIf tA ta tb):=by
 intro pins s σ H Q I h
 refine wpAny_IfExp (thn (hc pins s σ H _ I h) fun d s1 ⟨H1,I1,q1⟩=>?_)
 cases d with
 | true=>exact ha pins s1 σ H1 Q I1 q1
 | false=>exact hb pins s1 σ H1 Q I1 q1
end
end L2
namespace L2
open PySem PySem.Spec PyProof.Rows
def SqL (K:PySem.W.Frag) (H:Hp) (a:Addr) (xs:List V):Prop :=
 Rd H a (.lst xs) ∨
  ∃ (o:Obj) (its:Array Value) (n:Nat),K.lookup a=some o∧o.cls = .type "list"∧o.dict=none∧o.data = .seq its n∧its.size ≤ sizeLine∧Vals xs its.toList
def SqT (K:PySem.W.Frag) (H:Hp) (a:Addr) (xs:List V):Prop :=
 Rd H a (.tup xs) ∨
  ∃ (o:Obj) (its:Array Value) (n:Nat),K.lookup a=some o∧o.cls = .type "tuple"∧o.data = .seq its n∧its.size ≤ sizeLine∧Vals xs its.toList
def absV:Value→Option V
 | .none=>some .non
 | .bool b=>some (.bl b)
 | .int i _=>some (.int i)
 | .str x _=>some (.str x)
 | .bytes b _=>some (.byt b)
 | .float b _=>some (.flt b)
 | .ref a=>some (.ref a)
 | .type n=>some (.ty n)
 | _=>none
theorem RelV.abs {x:V} {u:Value} (r:RelV x u):absV u=some x:=by
 cases x with
 | non=>cases r;rfl
 | bl _=>cases r;rfl
 | int _=>obtain ⟨t,rfl⟩:=r;rfl
 | str _=>obtain ⟨t,rfl⟩:=r;rfl
 | byt _=>obtain ⟨t,rfl⟩:=r;rfl
 | flt _=>obtain ⟨t,rfl⟩:=r;rfl
 | ref _=>cases r;rfl
 | ty _=>cases r;rfl
theorem RelV.inj {x y:V} {u:Value} (r:RelV x u) (q:RelV y u):x=y:=Option.some.inj (r.abs.symm.trans q.abs)
theorem Vals.inj:∀ {xs ys:List V} {us:List Value},Vals xs us→Vals ys us→xs=ys
 | _,_,_, .nil, .nil=>rfl
 | _,_,_, .cons r t, .cons r' t'=>by rw [r.inj r',Vals.inj t t']
section
variable {X:Cx} {pins:List (Addr × Obj)} {σ:St} {H:Hp} {s:Shared} {a:Addr} {xs ys:List V}
theorem SqL.of {K:PySem.W.Frag} (h:H a=some (.lst xs)):SqL K H a xs := .inl (.inl h)
theorem SqT.of {K:PySem.W.Frag} (h:H a=some (.tup xs)):SqT K H a xs := .inl (.inl h)
theorem Inv.list (I:Inv X pins σ H s) (h:SqL X.K H a xs):∃ its:List Value,Vals xs its∧PlainL s.heap a its.toArray∧xs.length ≤ sizeLine:=by
 rcases h with h | ⟨o,its,n,hk,hc,hd,hs,hz,r⟩
 ·obtain ⟨z,its,n,r,e⟩:=h.ok I.hok
  exact ⟨its,r,⟨_,n,e,rfl,rfl,rfl⟩,z⟩
 ·refine ⟨its.toList,r,⟨o,n,I.kIn a o hk,hc,hd,by simpa using hs⟩,?_⟩
  have e:=r.length
  simp only [Array.length_toList] at e
  omega
theorem Inv.tuple (I:Inv X pins σ H s) (h:SqT X.K H a xs):∃ its:List Value,Vals xs its∧IsTup s.heap a its.toArray∧xs.length ≤ sizeLine:=by
 rcases h with h | ⟨o,its,n,hk,hc,hs,hz,r⟩
 ·obtain ⟨z,its,r,p⟩:=h.ok I.hok
  exact ⟨its,r,p,z⟩
 ·refine ⟨its.toList,r,⟨o,I.kIn a o hk,hc,n,by simpa using hs⟩,?_⟩
  have e:=r.length
  simp only [Array.length_toList] at e
  omega
theorem Inv.ziH (I:Inv X pins σ H s) (h:SqL X.K H a xs) (h':SqL X.K H a ys):xs=ys:=by
 obtain ⟨its,r,⟨o,n,e,_,_,d⟩,_⟩:=I.list h
 obtain ⟨its',r',⟨o',n',e',_,_,d'⟩,_⟩:=I.list h'
 rw [e] at e';cases e'
 rw [d] at d'
 injection d' with d1 _
 have:its=its':=by simpa using congrArg Array.toList d1
 subst this
 exact r.inj r'
theorem Inv.zj4 (I:Inv X pins σ H s) (h:SqT X.K H a xs) (h':SqT X.K H a ys):xs=ys:=by
 obtain ⟨its,r,⟨o,e,_,n,d⟩,_⟩:=I.tuple h
 obtain ⟨its',r',⟨o',e',_,n',d'⟩,_⟩:=I.tuple h'
 rw [e] at e';cases e'
 rw [d] at d'
 injection d' with d1 _
 have:its=its':=by simpa using congrArg Array.toList d1
 subst this
 exact r.inj r'
end
abbrev Cx.wish (X:Cx) (E:Value→Shared→Prop):Cx:={ X with xe:=E }
abbrev Cx.nox (X:Cx):Cx:=X.wish fun _ _=>False
theorem Cx.Ok.wish {X:Cx} (ok:X.Ok) (E:Value→Shared→Prop):(X.wish E).Ok :=
 ⟨ok.mod,ok.kind,ok.glob,ok.blt,ok.above,ok.inj,ok.has,ok.cab,ok.hd,ok.frames,ok.stk,ok.exf,ok.bs,ok.bsz,ok.noex,ok.exfs,ok.funs,ok.frf⟩
theorem Cx.Ok.zcz {X:Cx} {E:Value→Shared→Prop} (ok:(X.wish E).Ok):X.Ok :=
 ⟨ok.mod,ok.kind,ok.glob,ok.blt,ok.above,ok.inj,ok.has,ok.cab,ok.hd,ok.frames,ok.stk,ok.exf,ok.bs,ok.bsz,ok.noex,ok.exfs,ok.funs,ok.frf⟩
section
variable {X:Cx} {pins:List (Addr × Obj)} {σ:St} {H:Hp} {s:Shared} {E:Value→Shared→Prop}
theorem Inv.wish (I:Inv X pins σ H s) (E:Value→Shared→Prop):Inv (X.wish E) pins σ H s:=⟨I.ok.wish E,I.os,I.bare,I.base,I.loc,I.cell,I.free,I.freeC,I.pin,I.hok,I.len⟩
theorem Inv.zcz (I:Inv (X.wish E) pins σ H s):Inv X pins σ H s:=⟨I.ok.zcz,I.os,I.bare,I.base,I.loc,I.cell,I.free,I.freeC,I.pin,I.hok,I.len⟩
theorem SP.zcz {D:Ends} {f:Flow} {s':Shared} (h:SP (X.wish E) pins D f s'):SP X pins D f s':=by
 cases f with
 | next=>obtain ⟨σ',H',I,q⟩:=h;exact ⟨σ',H',I.zcz,q⟩
 | brk=>obtain ⟨σ',H',I,q⟩:=h;exact ⟨σ',H',I.zcz,q⟩
 | cont=>obtain ⟨σ',H',I,q⟩:=h;exact ⟨σ',H',I.zcz,q⟩
 | ret u=>obtain ⟨v,σ',H',I,r,q⟩:=h;exact ⟨v,σ',H',I.zcz,r,q⟩
theorem PE.nox {e:Expr} {t:TE} (h:PE X.nox e t):PE X e t:=fun pins s σ H Q I hw =>
 wpAny_mono (h pins s σ H Q (I.wish _) hw) (fun _ _ ⟨v,H',I',r,q⟩=>⟨v,H',I'.zcz,r,q⟩) fun _ _ z=>False.elim z
theorem PT.nox {e:Expr} {t:TT} (h:PT X.nox e t):PT X e t:=fun pins s σ H Q I hw =>
 wpAny_mono (h pins s σ H Q (I.wish _) hw) (fun _ _ ⟨H',I',q⟩=>⟨H',I'.zcz,q⟩) fun _ _ z=>False.elim z
theorem PSs.nox {st:List Stmt} {t:TS} (h:PSs X.nox st t):PSs X st t:=fun pins s σ H D I hw =>
 wpAny_mono (h pins s σ H D (I.wish _) hw) (fun _ _ q=>q.zcz) fun _ _ z=>False.elim z
end
section
variable {X:Cx} {st:Stmt} {rest:List Stmt} {t u:TS} {e:Expr} {te:TE} {pos:Pos}
def zql:TS:=fun D σ H=>D.nx σ H
def tSeq (t u:TS):TS:=fun D σ H=>t { D with nx:=u D } σ H
theorem zn5:PSs X [] zql:=fun _ _ σ H _ I h=>wpAny_execs_nil ⟨σ,H,I,h⟩
theorem zmn (h1:PS X st t) (h2:PSs X rest u):PSs X (st :: rest) (tSeq t u):=by
 intro pins s σ H D I h
 refine wpAny_execs_cons (thn (h1 pins s σ H { D with nx:=u D } I h) fun f s1 q=>?_)
 cases f with
 | next =>
  obtain ⟨σ',H',I',q⟩:=q
  exact h2 pins s1 σ' H' D I' q
 | ret v=>exact q
 | brk=>exact q
 | cont=>exact q
theorem znD (h1:PS X st t):PSs X [st] t:=by
 intro pins s σ H D I h
 refine wpAny_execs_cons (thn (h1 pins s σ H D I h) fun f s1 q=>?_)
 cases f with
 | next=>exact wpAny_execs_nil q
 | ret v=>exact q
 | brk=>exact q
 | cont=>exact q
theorem Inv.quiet {pins:List (Addr × Obj)} {σ:St} {H:Hp} {s:Shared} (I:Inv X pins σ H s):interactive X.env=false:=by simp [interactive,I.ok.kind]
def zqA (te:TE):TS:=fun D σ H=>te σ H fun _ H1=>D.nx σ H1
theorem zn9 (he:PE X e te) (hs:swapsWith e none pos.line X.env=pure false:=by rfl):PS X (.Expr e pos) (zqA te):=by
 intro pins s σ H D I h
 exact wpAny_Expr_any (thn (he pins s σ H _ I h) fun v s1 ⟨x,H1,I1,r1,q1⟩=>⟨σ,H1,I1,q1⟩) I.quiet hs
def tRet (te:TE):TS:=fun D σ H=>te σ H D.rt
theorem zoC (he:PE X e te):PS X (.Return (some e) pos) (tRet te):=by
 intro pins s σ H D I h
 exact wpAny_Return_some (thn (he pins s σ H _ I h) fun v s1 ⟨x,H1,I1,r1,q1⟩=>⟨x,σ,H1,I1,r1,q1⟩)
def tIfS (c:TT) (t u:TS):TS:=fun D σ H=>c σ H fun b H1=>if b=true then t D σ H1 else u D σ H1
theorem zqL {c:Expr} {a b:List Stmt} {tc:TT} (hc:PT X c tc) (ha:PSs X a t) (hb:PSs X b u):PS X (.If c a b pos) (tIfS tc t u):=by
 intro pins s σ H D I h
 refine wpAny_If (thn (hc pins s σ H _ I h) fun d s1 ⟨H1,I1,q1⟩=>?_)
 cases d with
 | true=>exact ha pins s1 σ H1 D I1 q1
 | false=>exact hb pins s1 σ H1 D I1 q1
end
abbrev TG:=V→St→Hp→(St→Hp→Prop)→Prop
abbrev TGs:=List V→St→Hp→(St→Hp→Prop)→Prop
def PG (X:Cx) (target:Expr) (t:TG):Prop :=
 ∀ (pins:List (Addr × Obj)) (s:Shared) (σ:St) (H:Hp) (v:V) (u:Value) (Q:St→Hp→Prop),Inv X pins σ H s→RelV v u→t v σ H Q →
  wpAny (model X.prog X.w) X.A (assign target X.env u) (fun _ s'=>∃ σ' H',Inv X pins σ' H' s'∧Q σ' H') X.xe s
def PGs (X:Cx) (ts:List Expr) (t:TGs):Prop :=
 ∀ (pins:List (Addr × Obj)) (s:Shared) (σ:St) (H:Hp) (vs:List V) (us:List Value) (Q:St→Hp→Prop),Inv X pins σ H s→Vals vs us→t vs σ H Q →
  wpAny (model X.prog X.w) X.A (assignInOrder ((assignEach ts X.env).map (·.2)) us) (fun _ s'=>∃ σ' H',Inv X pins σ' H' s'∧Q σ' H') X.xe s
section
variable {X:Cx} {pos:Pos}
def zl4 (i:Nat):TG:=fun v σ H Q=>Q (σ.set i (some v)) H
theorem zng {i:Nat} {x:Str} (hN:X.N.Nodup) (hi:X.N[i]? = some x) (hx:Loc X.env.scope x) (hf:X.fn x=true∨X.env.scope.names.lookup x=some .local:=by first | exact .inl rfl | exact .inr rfl | assumption):PG X (.Name x pos) (zl4 i):=by
 intro pins s σ H v u Q I r h
 exact wpAny_assign_Name (zdE I hN hi hx r (fun s' I'=>⟨_,H,I',h⟩) hf)
def gNil:TGs:=fun vs σ H Q=>vs=[]∧Q σ H
def zqh (t:TG) (u:TGs):TGs:=fun vs σ H Q=>∃ v r,vs=v :: r∧t v σ H fun σ' H'=>u r σ' H' Q
theorem zob:PGs X [] gNil:=by
 intro pins s σ H vs us Q I r h
 obtain ⟨e,h⟩:=h
 subst e
 cases r
 exact assignInOrder_nil ⟨σ,H,I,h⟩
theorem zls {e:Expr} {es:List Expr} {t:TG} {u:TGs} (h1:PG X e t) (h2:PGs X es u)
  (hs:(assignEach (e :: es) X.env).map (·.2)=assign e X.env :: (assignEach es X.env).map (·.2):=by rfl):PGs X (e :: es) (zqh t u):=by
 intro pins s σ H vs us Q I r h
 obtain ⟨v,vr,e1,h⟩:=h
 subst e1
 cases r with
 | cons r rr =>
  rw [hs]
  refine assignInOrder_cons (thn (h1 pins s σ H _ _ _ I r h) fun _ s1 ⟨σ1,H1,I1,q1⟩=>?_)
  exact h2 pins s1 σ1 H1 _ _ Q I1 rr q1
def gTup (K:PySem.W.Frag) (n:Nat) (t:TGs):TG:=fun v σ H Q=>∃ a xs,v = .ref a∧SqT K H a xs∧xs.length=n∧t xs σ H Q
theorem zpv {es:List Expr} {k:Nat} {t:TGs} {n:Nat} (hc:X.calm=true) (h:PGs X es t)
  (hn:(assignEach es X.env).length=n:=by rfl) (hst:(assignEach es X.env).findIdx? (·.1)=none:=by rfl):PG X (.Tuple es k pos) (gTup X.K n t):=by
 intro pins s σ H v u Q I r hw
 obtain ⟨a,xs,e1,hq,hl,hw⟩:=hw
 subst e1
 cases r
 obtain ⟨its,rv,ht,hz⟩:=I.tuple hq
 refine assign_Tuple_tuple (I.ok.hd hc) ht (by simp [hn,← hl,rv.length]) hst fun h' hx=>?_
 have I1:Inv X pins σ H { s with heap:=h' }:=I.kept (t':=s.toks) fun b o e=>hx b o (Nat.ne_of_lt (Heap.lt_size e)) e
 exact h pins _ σ H xs _ Q I1 (by simpa using rv) hw
def tAsg (te:TE) (g:TG):TS:=fun D σ H=>te σ H fun x H1=>g x σ H1 D.nx
theorem zpc {i:Nat} {x:Str} {e:Expr} {te:TE} {pos':Pos} (hN:X.N.Nodup) (hi:X.N[i]? = some x) (hx:Loc X.env.scope x) (he:PE X e te) (hs:swapsWith e (some (.Name x pos')) pos.line X.env=pure false:=by rfl) (hf:X.fn x=true∨X.env.scope.names.lookup x=some .local:=by first | exact .inl rfl | exact .inr rfl | assumption) :
  PS X (.Assign [.Name x pos'] e pos) (tAsg te (zl4 i)):=by
 intro pins s σ H D I h
 refine wpAny_Assign_Name (thn (he pins s σ H _ I h) fun v s1 ⟨y,H1,I1,r1,q1⟩=>?_) hs
 exact zdE I1 hN hi hx r1 (fun s2 I2=>⟨_,H1,I2,q1⟩) hf
end
section
variable {X:Cx} {pos:Pos}
end
structure It where
 go:Nat→Hp→Prop
 yld:Nat→Hp→V→Hp→Prop
 stop:Nat→Hp→Prop
def FpOk (X:Cx) (pins:List (Addr × Obj)) (H:Hp) (b:Addr):Prop :=
 H b=none∧b ≠ X.env.locals∧b ∉ X.fs∧(b ∈ X.ex∨X.s₀.heap.objs.size ≤ b)∧(∀ x c,X.env.cells.lookup x=some c→c ≠ b)∧∀ p ∈ X.pn ++ pins,p.1 ≠ b
theorem Inv.fpOk {X:Cx} {pins:List (Addr × Obj)} {σ:St} {H H':Hp} {s:Shared} {b:Addr} (I:Inv X pins σ H s) (hb:s.heap.objs.size ≤ b) (hn:H' b=none):FpOk X pins H' b:=by
 refine ⟨hn,Nat.ne_of_gt (Nat.lt_of_lt_of_le I.lt hb),I.nofs hb, .inr (Nat.le_trans I.sz hb),fun x c e z=>?_,fun p hp z=>?_⟩
 ·obtain ⟨v,q⟩:=I.cell x c e
  exact absurd (Nat.lt_of_lt_of_le q.lt (by rw [z];exact hb)) (Nat.lt_irrefl _)
 ·exact absurd (Nat.lt_of_lt_of_le (Heap.lt_size (I.pin p hp).1) (by rw [z];exact hb)) (Nat.lt_irrefl _)
structure Turn (P:Program) (w:World) (K:PySem.W.Frag) (tg:Expr) (J:It) (fp:List Addr) (it:Addr) (tn:Nat→Heap→Prop):Prop where
 mem:it ∈ fp
 obj:∀ i h,tn i h→∀ b ∈ fp,∃ o,h.get? b=some o∧∀ v,o.data ≠ .cell v
 keep:∀ i h h',tn i h→(∀ b ∈ fp,∀ o,h.get? b=some o→h'.get? b=some o)→tn i h'
 item:∀ (X:Cx),X.prog=P→X.w=w→X.K=K→X.calm=true→∀ (i:Nat) (pins:List (Addr × Obj)) (s:Shared) (σ:St) (H:Hp) (E:Value→Shared→Prop),Inv X pins σ H s→(∀ b ∈ fp,FpOk X pins H b)→tn i s.heap→J.go i H →
  wpAny (model P w) X.A (pyNext (.ref it)) (fun r s1=>∃ u,r=some u ∧
   wpAny (model P w) X.A (letOwnedTupleGo tg (.ref it) u) (fun _ s2=>∃ x H',Inv X pins σ H' s2∧RelV x u∧J.yld i H x H'∧tn (i + 1) s2.heap∧∀ b ∈ fp,H' b=none) E s1) E s
 done:∀ (X:Cx),X.prog=P→X.w=w→X.K=K→X.calm=true→∀ (i:Nat) (pins:List (Addr × Obj)) (s:Shared) (σ:St) (H:Hp) (E:Value→Shared→Prop),Inv X pins σ H s→(∀ b ∈ fp,FpOk X pins H b)→tn i s.heap→J.stop i H →
  wpAny (model P w) X.A (pyNext (.ref it)) (fun r s1=>r=none∧Inv X pins σ H s1) E s
 self:∀ (A:Around) (i:Nat) (s:Shared) (Q:Value→Shared→Prop) (E:Value→Shared→Prop),tn i s.heap→Q (.ref it) s→wpAny (model P w) A (pyIter (.ref it)) Q E s
abbrev TI:=St→Hp→(It→Hp→Prop)→Prop
def PIE (X:Cx) (pins:List (Addr × Obj)) (σ:St) (tg:Expr) (R:It→Hp→Prop) (itv:Value) (s2:Shared):Prop :=
 ∃ (it:Addr) (fp:List Addr) (tn:Nat→Heap→Prop) (J:It) (H':Hp),itv = .ref it∧Inv X pins σ H' s2∧Turn X.prog X.w X.K tg J fp it tn∧tn 0 s2.heap∧(∀ b ∈ fp,FpOk X pins H' b)∧R J H'
def PI (X:Cx) (tg iter:Expr) (wi:TI):Prop :=
 ∀ (pins:List (Addr × Obj)) (s:Shared) (σ:St) (H:Hp) (R:It→Hp→Prop),Inv X pins σ H s→wi σ H R →
  wpAny (model X.prog X.w) X.A (eval iter X.env) (fun v s1=>wpAny (model X.prog X.w) X.A (pyIter v) (PIE X pins σ tg R) X.xe s1) X.xe s
theorem zml {M:Model} {A:Around} {E:Value→Shared→Prop} {s:Shared} {tg:Expr} {it:Addr} {u:Value} {o:Obj} {n:String} {vs:Array Value} {Q:Unit→Shared→Prop} (ho:s.heap.get? it=some o) (hc:o.cls = .type n) (hd:o.data = .fields vs)
  (hn : ["enumerate", "zip", "dict_itemiterator", "dict_reverseitemiterator", "odict_iterator", "itertools.zip_longest", "itertools.pairwise"].contains n=false) (hQ:Q () s):wpAny M A (letOwnedTupleGo tg (.ref it) u) Q E s:=by
 unfold letOwnedTupleGo
 cases tg <;> first
  | exact wpAny_pure hQ
  | (cases u <;> first
    | exact wpAny_pure hQ
    | (refine wpAny_bind (wpAny_load ho ?_)
       rw [hc,hd]
       show wpAny M A (if (["enumerate", "zip", "dict_itemiterator", "dict_reverseitemiterator", "odict_iterator", "itertools.zip_longest", "itertools.pairwise"].contains n && vs[0]? == some (rawInt _))=true then _ else _) Q E s
       rw [if_neg (by intro h;rw [hn,Bool.false_and] at h;cases h)]
       exact wpAny_pure hQ))
def Itl (K:PySem.W.Frag) (a:Addr):It :=
 ⟨fun i H=>∃ xs x,SqL K H a xs∧xs[i]? = some x,fun i H x H'=>H'=H∧∀ xs,SqL K H a xs→xs[i]? = some x,fun i H=>∃ xs,SqL K H a xs∧xs.length ≤ i⟩
def Itt (K:PySem.W.Frag) (a:Addr):It :=
 ⟨fun i H=>∃ xs x,SqT K H a xs∧xs[i]? = some x,fun i H x H'=>H'=H∧∀ xs,SqT K H a xs→xs[i]? = some x,fun i H=>∃ xs,SqT K H a xs∧xs.length ≤ i⟩
def Itr (lo:Int) (n:Nat):It:=⟨fun i _=>i < n,fun i H x H'=>H'=H∧x = .int (lo + i),fun i _=>n ≤ i⟩
theorem zky {P:Program} {w:World} {K:PySem.W.Frag} {tg:Expr} (a it:Addr):Turn P w K tg (Itl K a) [it] it (fun i h=>h.IsListIter it a i) where
 mem:=by simp
 obj:=fun i h st b hb=>by
  have e:b=it:=by simpa using hb
  subst e
  obtain ⟨o,e,c,d⟩:=st
  exact ⟨o,e,fun v z=>by rw [d] at z;cases z⟩
 keep:=fun i h h' st k=>st.at fun o e=>k it (by simp) o e
 item:=by
  intro X hP hw hK hc i pins s σ H E I hf st hg
  subst hP hw hK
  obtain ⟨xs,x,hq,hx⟩:=hg
  obtain ⟨its,rv,p,hz⟩:=I.list hq
  obtain ⟨u,hu,ru⟩:=rv.get hx
  obtain ⟨f0,f1,f2,f3,f4,f5⟩:=hf it (by simp)
  refine wpAny_pyNext_list_item st p.isList (x:=u) (by simpa using hu) fun h' st' sb=>?_
  have I1:Inv X pins σ H { s with heap:=h' }:=I.turned (t':=s.toks) (fun b o hb e=>(sb.2 b hb).trans e) f0 f1 f3 f4 f5
  obtain ⟨o,e,c,d⟩:=id st'
  exact ⟨u,rfl,zml (s:={ s with heap:=h' }) e c d (by decide) ⟨x,H,I1,ru,⟨rfl,fun ys hy=>by rw [I.ziH hy hq];exact hx⟩,st',fun b hb=>(hf b hb).1⟩⟩
 done:=by
  intro X hP hw hK hc i pins s σ H E I hf st hg
  subst hP hw hK
  obtain ⟨xs,hq,hx⟩:=hg
  obtain ⟨its,rv,p,hz⟩:=I.list hq
  obtain ⟨f0,f1,f2,f3,f4,f5⟩:=hf it (by simp)
  have hl:=rv.length
  exact wpAny_pyNext_list_end (I.ok.hd hc) st p.isList (by simp;omega) fun h' eb=>⟨rfl,I.turned (t':=s.toks) (fun b o hb e=>eb b o hb e) f0 f1 f3 f4 f5⟩
 self:=fun _ _ _ _ _ st h=>wpAny_pyIter_listiter st h
theorem zjm {P:Program} {w:World} {K:PySem.W.Frag} {tg:Expr} (a it:Addr):Turn P w K tg (Itt K a) [it] it (fun i h=>h.IsTupleIter it a i) where
 mem:=by simp
 obj:=fun i h st b hb=>by
  have e:b=it:=by simpa using hb
  subst e
  obtain ⟨o,e,c,d⟩:=st
  exact ⟨o,e,fun v z=>by rw [d] at z;cases z⟩
 keep:=fun i h h' st k=>st.at fun o e=>k it (by simp) o e
 item:=by
  intro X hP hw hK hc i pins s σ H E I hf st hg
  subst hP hw hK
  obtain ⟨xs,x,hq,hx⟩:=hg
  obtain ⟨its,rv,p,hz⟩:=I.tuple hq
  obtain ⟨u,hu,ru⟩:=rv.get hx
  obtain ⟨f0,f1,f2,f3,f4,f5⟩:=hf it (by simp)
  refine wpAny_pyNext_tuple_item st (show s.heap.IsTuple a its.toArray from p) (x:=u) (by simpa using hu) fun h' st' sb=>?_
  have I1:Inv X pins σ H { s with heap:=h' }:=I.turned (t':=s.toks) (fun b o hb e=>(sb.2 b hb).trans e) f0 f1 f3 f4 f5
  obtain ⟨o,e,c,d⟩:=id st'
  exact ⟨u,rfl,zml (s:={ s with heap:=h' }) e c d (by decide) ⟨x,H,I1,ru,⟨rfl,fun ys hy=>by rw [I.zj4 hy hq];exact hx⟩,st',fun b hb=>(hf b hb).1⟩⟩
 done:=by
  intro X hP hw hK hc i pins s σ H E I hf st hg
  subst hP hw hK
  obtain ⟨xs,hq,hx⟩:=hg
  obtain ⟨its,rv,p,hz⟩:=I.tuple hq
  obtain ⟨f0,f1,f2,f3,f4,f5⟩:=hf it (by simp)
  have hl:=rv.length
  exact wpAny_pyNext_tuple_end (I.ok.hd hc) st (show s.heap.IsTuple a its.toArray from p) (by simp;omega) fun h' eb=>⟨rfl,I.turned (t':=s.toks) (fun b o hb e=>eb b o hb e) f0 f1 f3 f4 f5⟩
 self:=fun _ _ _ _ _ st h=>wpAny_pyIter_tupleiter st h
theorem zjG {P:Program} {w:World} {K:PySem.W.Frag} {tg:Expr} (it:Addr) (lo:Int) (n:Nat):Turn P w K tg (Itr lo n) [it] it (fun i h=>IsRangeIter h it (lo + (i:Nat) * 1) ((n:Int) - (i:Nat)) 1) where
 mem:=by simp
 obj:=fun i h st b hb=>by
  have e:b=it:=by simpa using hb
  subst e
  exact ⟨_,st,fun v z=>by
   have z':Data.fields _=Data.cell v:=z
   cases z'⟩
 keep:=fun i h h' st k=>k it (by simp) _ st
 item:=by
  intro X hP hw hK hc i pins s σ H E I hf st hg
  subst hP hw hK
  obtain ⟨f0,f1,f2,f3,f4,f5⟩:=hf it (by simp)
  have W:=Walks.range (prog:=X.prog) (w:=X.w) (I.ok.hd hc) it lo 1 n
  refine W.item i s _ _ hg st fun v h' tk hv st' kk=>?_
  obtain ⟨t,rfl⟩:=hv
  have I1:Inv X pins σ H { s with heap:=h',toks:=tk }:=I.turned (fun b o hb e=>kk b o (by simpa using hb) e) f0 f1 f3 f4 f5
  refine ⟨_,rfl,zml (s:={ s with heap:=h',toks:=tk }) (n := "range_iterator") st' rfl rfl (by decide) ⟨.int (lo + i),H,I1,⟨t,?_⟩,⟨rfl,rfl⟩,st',fun b hb=>(hf b hb).1⟩⟩
  rw [Int.mul_one]
 done:=by
  intro X hP hw hK hc i pins s σ H E I hf st hg
  subst hP hw hK
  obtain ⟨f0,f1,f2,f3,f4,f5⟩:=hf it (by simp)
  exact wpAny_pyNext_range_end (I.ok.hd hc) st (by have:n ≤ i:=hg;omega) fun h' eb=>⟨rfl,I.turned (t':=s.toks) (fun b o hb e=>eb b o hb e) f0 f1 f3 f4 f5⟩
 self:=fun _ _ _ _ _ st h=>wpAny_pyIter_rangeiter st h
end L2
namespace L2
open PySem PySem.Spec PyProof.Rows
section
variable {X:Cx} {tg:Expr}
theorem zji {pins:List (Addr × Obj)} {σ:St} {H:Hp} {s:Shared} {R:It→Hp→Prop} {E:Value→Shared→Prop} {lo hi:Int} {t u v:Tok} {tk:Nat} (I:Inv X pins σ H s) (h1 : -(2 ^ 62) ≤ lo) (h2:lo < 2 ^ 62) (h3 : -(2 ^ 62) ≤ hi) (h4:hi < 2 ^ 62)
  (q:R (Itr lo (hi - lo).toNat) H):wpAny (model X.prog X.w) X.A (pyIter (.ref s.heap.objs.size)) (PIE X pins σ tg R) E { s with heap:=s.heap.push { cls := .type "range",data := .fields #[.int lo t, .int hi u, .int 1 v] },toks:=tk }:=by
 refine wpAny_pyIter_range (IsRange.new ..) (small_one h1 h2 h3 h4) ?_
 have I1:Inv X pins σ H { s with heap:=s.heap.push { cls := .type "range",data := .fields #[.int lo t, .int hi u, .int 1 v] },toks:=tk }:=I.kept fun b o e=>Heap.get?_push_of_some _ e
 refine ⟨(s.heap.push { cls := .type "range",data := .fields #[.int lo t, .int hi u, .int 1 v] }).objs.size,[(s.heap.push { cls := .type "range",data := .fields #[.int lo t, .int hi u, .int 1 v] }).objs.size],_,_,H,rfl,
  I1.kept (t':=tk) fun b o e=>Heap.get?_push_of_some _ e,zjG _ lo (hi - lo).toNat,?_,fun b hb=>?_,q⟩
 ·have e1:lo + ((0:Nat):Int) * 1=lo:=by simp
  have e2:(((hi - lo).toNat:Nat):Int) - ((0:Nat):Int)=Builtin.Range.rangeSize lo hi 1:=by rw [rangeSize_one];split <;> omega
  show IsRangeIter _ _ (lo + ((0:Nat):Int) * 1) ((((hi - lo).toNat:Nat):Int) - ((0:Nat):Int)) 1
  rw [e1,e2]
  exact Heap.get?_push_size _ rfl
 ·have e:b=(s.heap.push { cls := .type "range",data := .fields #[.int lo t, .int hi u, .int 1 v] }).objs.size:=by simpa using hb
  subst e
  exact I1.fpOk (Nat.le_refl _) (I1.hok.fresh (Nat.le_refl _))
def zqu (ta:TA):TI:=fun σ H R=>ta σ H fun vs H1=>∃ j:Int,vs=[.int j]∧-(2 ^ 62) ≤ j∧j < 2 ^ 62∧R (Itr 0 j.toNat) H1
def zqk (ta:TA):TI:=fun σ H R=>ta σ H fun vs H1=>∃ i j:Int,vs=[.int i, .int j]∧(-(2 ^ 62) ≤ i∧i < 2 ^ 62∧-(2 ^ 62) ≤ j∧j < 2 ^ 62)∧R (Itr i (j - i).toNat) H1
theorem zj9 {a:Expr} {ta:TA} {p pos:Pos} (hg:Gl X "range") (hm:X.mg "range" = none) (ha:PA X [a] ta) (hs:starEach [a] X.env=[(false,eval a X.env)]:=by rfl):PI X tg (.Call (.Name "range" p) [a] [] pos) (zqu ta):=by
 intro pins s σ H R I h
 refine Call_ (zgj I hg hm boot_range (PyProof.Rows.callWith_type1 (thn (ha pos pins s σ H _ I h) fun us s1 ⟨vs,H1,I1,r1,q1⟩=>?_) hs rfl))
 obtain ⟨j,e,q1,q2,q⟩:=q1
 subst e
 cases r1 with
 | cons r rr =>
  cases rr
  obtain ⟨t,rfl⟩:=r
  exact call_range_1 (zji I1 (by omega) (by omega) q1 q2 (by simpa using q))
theorem zle {a b:Expr} {ta:TA} {p pos:Pos} (hg:Gl X "range") (hm:X.mg "range" = none) (ha:PA X [a,b] ta) (hs:starEach [a,b] X.env=[(false,eval a X.env),(false,eval b X.env)]:=by rfl) (hs2:starEach [b] X.env=[(false,eval b X.env)]:=by rfl) :
  PI X tg (.Call (.Name "range" p) [a,b] [] pos) (zqk ta):=by
 intro pins s σ H R I h
 refine Call_ (zgj I hg hm boot_range (PyProof.Rows.callWith_type1 (thn (ha pos pins s σ H _ I h) fun us s1 ⟨vs,H1,I1,r1,q1⟩=>?_) (by rw [hs,hs2]) (by rw [hs2];rfl)))
 obtain ⟨i,j,e,⟨q1,q2,q3,q4⟩,q⟩:=q1
 subst e
 cases r1 with
 | cons r rr =>
  cases rr with
  | cons r' rr =>
   cases rr
   obtain ⟨t,rfl⟩:=r
   obtain ⟨t',rfl⟩:=r'
   exact call_range_2 (zji I1 q1 q2 q3 q4 q)
def tFor (wi:TI) (g:TG) (tb:TS):TS:=fun D σ H=>wi σ H fun J H1=>∃ W:Nat→Nat→St→Hp→Prop,(∃ m,W 0 m σ H1)∧∀ i m σ H,W i m σ H →
 (J.stop i H∧D.nx σ H)∨(J.go i H∧∃ N:St→Hp→Prop,(∀ σ' H',N σ' H'→∃ m',m' < m∧W (i + 1) m' σ' H')∧∀ x H',J.yld i H x H'→g x σ H' fun σ2 H2=>tb { D with nx:=N,ct:=N,bk:=D.nx } σ2 H2)
def zhN (fp:List Addr) (h:Heap):List (Addr × Obj):=fp.filterMap fun b=>(h.get? b).map fun o=>(b,o)
theorem zdH {fp:List Addr} {h:Heap} {b:Addr} {o:Obj} (hb:b ∈ fp) (e:h.get? b=some o):(b,o) ∈ zhN fp h:=List.mem_filterMap.mpr ⟨b,hb,by rw [e];rfl⟩
theorem zkp {fp:List Addr} {h:Heap} {p:Addr × Obj} (hp:p ∈ zhN fp h):p.1 ∈ fp∧h.get? p.1=some p.2:=by
 obtain ⟨b,hb,e⟩:=List.mem_filterMap.mp hp
 cases q:h.get? b with
 | none=>rw [q] at e;cases e
 | some o =>
  rw [q] at e
  have e':(b,o)=p:=Option.some.inj e
  subst e'
  exact ⟨hb,q⟩
theorem Inv.pinned {pins:List (Addr × Obj)} {σ:St} {H:Hp} {s:Shared} {fp:List Addr} (I:Inv X pins σ H s) (hf:∀ b ∈ fp,FpOk X pins H b) (ho:∀ b ∈ fp,∃ o,s.heap.get? b=some o∧∀ v,o.data ≠ .cell v):Inv X (pins ++ zhN fp s.heap) σ H s :=
 I.zim fun p hp=>(List.mem_append.mp hp).elim (fun z=>I.pin p (List.mem_append_right _ z)) fun z=>by
  obtain ⟨hb,e⟩:=zkp z
  obtain ⟨f0,f1,f2,_⟩:=hf p.1 hb
  obtain ⟨o,e',d⟩:=ho p.1 hb
  rw [e] at e';cases e'
  exact ⟨e,f0,f1,f2,d⟩
theorem Inv.zeW {pins pl:List (Addr × Obj)} {σ:St} {H:Hp} {s:Shared} (I:Inv X (pins ++ pl) σ H s):Inv X pins σ H s:=I.zim fun p hp=>I.pin p (List.mem_append_right _ (List.mem_append_left _ hp))
theorem zoy {iter:Expr} {body:List Stmt} {wi:TI} {g:TG} {tb:TS} {pos:Pos} (hp:PassesOwn (model X.prog X.w) X.A X.env X.xe) (hc:X.calm=true) (hi:PI X tg iter wi) (hg:PG X tg g) (hb:PSs X body tb)
  (hs:∀ x,foldedSetIterable iter X.env x=pure x:=by intro _;rfl):PS X (.For tg iter body [] pos) (tFor wi g tb):=by
 intro pins s σ H D I h
 refine wpAny_For (thn (hi pins s σ H _ I h) fun v s1 h1=>thn h1 fun itv s2 h2=>?_) hs
 obtain ⟨it,fp,tn,J,H2,e,I2,T,st2,f2,W,⟨m0,w0⟩,turn⟩:=h2
 subst e
 have stat:∀ {H':Hp},(∀ b ∈ fp,H' b=none)→∀ b ∈ fp,FpOk X pins H' b:=fun hn b hb=>⟨hn b hb,(f2 b hb).2⟩
 refine codeAny_forLoop_any (fun n s'=>∃ i σ' H',Inv X pins σ' H' s'∧tn i s'.heap∧(∀ b ∈ fp,H' b=none)∧W i n σ' H') ?_ m0 ⟨0,σ,H2,I2,st2,fun b hb=>(f2 b hb).1,w0⟩
 rintro n s3 ⟨i,σ3,H3,I3,st3,fr3,w3⟩
 rcases turn i n σ3 H3 w3 with ⟨stop,qn⟩ | ⟨go,N,hN,step⟩
 ·refine wpAny_passesOwn hp (thn (T.done X rfl rfl rfl hc i pins s3 σ3 H3 X.xe I3 (stat fr3) st3 stop) fun r s4 ⟨hr,I4⟩=>?_)
  subst hr
  exact wpAny_execs_nil ⟨σ3,H3,I4,qn⟩
 ·refine wpAny_passesOwn hp (thn (T.item X rfl rfl rfl hc i pins s3 σ3 H3 X.xe I3 (stat fr3) st3 go) fun r s4 ⟨u,hr,h4⟩=>?_)
  subst hr
  refine wpAny_passesOwn hp (thn h4 fun _ s5 ⟨x,H5,I5,r5,y5,st5,fr5⟩=>?_)
  have I5':=I5.pinned (stat fr5) (T.obj _ _ st5)
  refine wpAny_passesOwn hp (thn (hg _ s5 σ3 H5 x u _ I5' r5 (step x H5 y5)) fun _ s6 ⟨σ6,H6,I6,q6⟩=>?_)
  refine wpAny_passesOwn hp (thn (hb _ s6 σ6 H6 _ I6 q6) fun f s7 q7=>?_)
  have again:∀ {σ7:St} {H7:Hp},Inv X (pins ++ zhN fp s5.heap) σ7 H7 s7→N σ7 H7→∃ m,m < n∧∃ i σ' H',Inv X pins σ' H' s7∧tn i s7.heap∧(∀ b ∈ fp,H' b=none)∧W i m σ' H':=fun {σ7 H7} I7 n7=>by
   obtain ⟨m',hm,w7⟩:=hN σ7 H7 n7
   refine ⟨m',hm,i + 1,σ7,H7,I7.zeW,T.keep _ _ _ st5 fun b hb o e=>(I7.pin (b,o) (List.mem_append_right _ (List.mem_append_right _ (zdH hb e)))).1,fun b hb=>?_,w7⟩
   obtain ⟨o,e,d⟩:=T.obj _ _ st5 b hb
   exact (I7.pin (b,o) (List.mem_append_right _ (List.mem_append_right _ (zdH hb e)))).2.1
  cases f with
  | next=>obtain ⟨σ7,H7,I7,n7⟩:=q7;exact again I7 n7
  | cont=>obtain ⟨σ7,H7,I7,n7⟩:=q7;exact again I7 n7
  | brk=>obtain ⟨σ7,H7,I7,q7⟩:=q7;exact ⟨σ7,H7,I7.zeW,q7⟩
  | ret v=>obtain ⟨x7,σ7,H7,I7,r7,q7⟩:=q7;exact ⟨x7,σ7,H7,I7.zeW,r7,q7⟩
end
end L2
namespace L2
open PySem PySem.Spec PyProof.Rows
abbrev R2:=V→V→Hp→VK→Prop
def OpR (X:Cx) (f:Value→Value→Sem Value) (r:R2):Prop :=
 ∀ (pins:List (Addr × Obj)) (s:Shared) (σ:St) (H:Hp) (x y:V) (v u:Value) (Q:VK),Inv X pins σ H s→RelV x v→RelV y u→r x y H Q →
  wpAny (model X.prog X.w) X.A (f v u) (EP X pins σ Q) X.xe s
def zdc (X:Cx) (f:Value) (r:List V→Hp→VK→Prop):Prop :=
 ∀ (pins:List (Addr × Obj)) (s:Shared) (σ:St) (H:Hp) (xs:List V) (us:List Value) (Q:VK),Inv X pins σ H s→Vals xs us→r xs H Q →
  wpAny (model X.prog X.w) X.A (call f us) (EP X pins σ Q) X.xe s
def tOp (r:R2) (ta tb:TE):TE:=fun σ H Q=>ta σ H fun x H1=>tb σ H1 fun y H2=>r x y H2 Q
def rI (C:Int→Int→Prop) (g:Int→Int→V):R2:=fun x y H Q=>∃ i j,x = .int i∧y = .int j∧C i j∧Q (g i j) H
def rI0 (g:Int→Int→V):R2:=fun x y H Q=>∃ i j,x = .int i∧y = .int j∧Q (g i j) H
section
variable {X:Cx} {a b c:Expr} {ta tb tc:TE} {pos:Pos}
theorem binT (ha:PE X a ta) (hb:PE X b tb) {pins:List (Addr × Obj)} {s:Shared} {σ:St} {H:Hp} {R:V→V→Hp→Prop} (I:Inv X pins σ H s)
  (h:ta σ H fun x H1=>tb σ H1 fun y H2=>R x y H2) {Q:Value→Shared→Prop} {f:Value→Value→Sem Value}
  (hf:∀ v u s2 x y H2,Inv X pins σ H2 s2→RelV x v→RelV y u→R x y H2→wpAny (model X.prog X.w) X.A (f v u) Q X.xe s2) :
  wpAny (model X.prog X.w) X.A (eval a X.env) (fun v s₁=>wpAny (model X.prog X.w) X.A (eval b X.env) (fun u s₂=>wpAny (model X.prog X.w) X.A (f v u) Q X.xe s₂) X.xe s₁) X.xe s:=by
 refine thn (ha pins s σ H _ I h) fun v s1 ⟨x,H1,I1,r1,q1⟩=>?_
 refine thn (hb pins s1 σ H1 _ I1 q1) fun u s2 ⟨y,H2,I2,r2,q2⟩=>?_
 exact hf v u s2 x y H2 I2 r1 r2 q2
theorem zqj {op:Operator} {r:R2} (ho:OpR X (binaryOp op) r) (ha:PE X a ta) (hb:PE X b tb):PE X (.BinOp a op b pos) (tOp r ta tb):=by
 intro pins s σ H Q I h
 exact wpAny_BinOp (binT ha hb I h fun v u s2 x y H2 I2 rx ry q=>ho pins s2 σ H2 x y v u Q I2 rx ry q)
theorem opI {f:Value→Value→Sem Value} {C:Int→Int→Prop} {g:Int→Int→Int}
  (rule:∀ (i j:Int) (t u:Tok) (s:Shared) (Q:Value→Shared→Prop) (E:Value→Shared→Prop),C i j→Q (.int (g i j) s.toks) { s with toks:=s.toks + 1 }→wpAny (model X.prog X.w) X.A (f (.int i t) (.int j u)) Q E s) :
  OpR X f (rI C fun i j => .int (g i j)):=by
 intro pins s σ H x y v u Q I rx ry h
 obtain ⟨i,j,rfl,rfl,hc,q⟩:=h
 obtain ⟨t,rfl⟩:=rx
 obtain ⟨t',rfl⟩:=ry
 exact rule i j t t' s _ _ hc ⟨.int (g i j),H,I.tok _,⟨_,rfl⟩,q⟩
theorem opI0 {f:Value→Value→Sem Value} {g:Int→Int→Int}
  (rule:∀ (i j:Int) (t u:Tok) (s:Shared) (Q:Value→Shared→Prop) (E:Value→Shared→Prop),Q (.int (g i j) s.toks) { s with toks:=s.toks + 1 }→wpAny (model X.prog X.w) X.A (f (.int i t) (.int j u)) Q E s) :
  OpR X f (rI0 fun i j => .int (g i j)):=by
 intro pins s σ H x y v u Q I rx ry h
 obtain ⟨i,j,rfl,rfl,q⟩:=h
 obtain ⟨t,rfl⟩:=rx
 obtain ⟨t',rfl⟩:=ry
 exact rule i j t t' s _ _ ⟨.int (g i j),H,I.tok _,⟨_,rfl⟩,q⟩
theorem opB0 {f:Value→Value→Sem Value} {g:Int→Int→Bool}
  (rule:∀ (i j:Int) (t u:Tok) (s:Shared) (Q:Value→Shared→Prop) (E:Value→Shared→Prop),Q (.bool (g i j)) s→wpAny (model X.prog X.w) X.A (f (.int i t) (.int j u)) Q E s) :
  OpR X f (rI0 fun i j => .bl (g i j)):=by
 intro pins s σ H x y v u Q I rx ry h
 obtain ⟨i,j,rfl,rfl,q⟩:=h
 obtain ⟨t,rfl⟩:=rx
 obtain ⟨t',rfl⟩:=ry
 exact rule i j t t' s _ _ ⟨.bl (g i j),H,I,rfl,q⟩
def CDiv (i j:Int):Prop:=0 < j∧j < 1073741824
def CPow (i j:Int):Prop:=0 ≤ j∧j ≤ 1000000∧i.natAbs < 2 ^ 64
def CMul (i j:Int):Prop:=(-(2 ^ 64) < i∧i < 2 ^ 64)∨(-(2 ^ 64) < j∧j < 2 ^ 64)
theorem CMul.ok {i j:Int} (h:CMul i j):IntMulOk i j:=by
 rcases h with ⟨h1,h2⟩ | ⟨h1,h2⟩
 ·exact .of_left (intBits_le_64 h1 h2)
 ·exact .of_right (intBits_le_64 h1 h2)
theorem zpg:OpR X (binaryOp .Add) (rI0 fun i j => .int (i + j)):=opI0 fun _ _ _ _ _ _ _ q=>add_int q
theorem zoD:OpR X (binaryOp .Sub) (rI0 fun i j => .int (i - j)):=opI0 fun _ _ _ _ _ _ _ q=>sub_int q
theorem zpQ:OpR X (binaryOp .Mult) (rI CMul fun i j => .int (i * j)):=opI fun _ _ _ _ _ _ _ hc q=>mul_int q hc.ok
theorem znx:OpR X (binaryOp .FloorDiv) (rI CDiv fun i j => .int (i / j)):=opI fun i j _ _ _ _ _ hc q=>by
 have h1:(0:Int) < j:=hc.1
 have h2:j < 1073741824:=hc.2
 exact floordiv_int (by omega) (by rw [Int.fdiv_eq_ediv_of_nonneg i (by omega)];exact q) (.inl (PyProof.noPylong_small (by omega)))
theorem zp8:OpR X (binaryOp .Mod) (rI (fun _ j=>0 < j) fun i j => .int (i % j)):=opI fun i j _ _ _ _ _ hc q=>by
 have h1:(0:Int) < j:=hc
 exact mod_int' (by omega) (by rw [Int.fmod_eq_emod_of_nonneg i (by omega)];exact q)
theorem zp0:OpR X (binaryOp .Pow) (rI CPow fun i j => .int (i ^ j.toNat)):=opI fun _ _ _ _ _ _ _ hc q=>pow_int_small hc.1 hc.2.1 hc.2.2 q
end
section
variable {X:Cx} {a b c:Expr} {ta tb tc:TE} {pos:Pos}
theorem ziI {pins:List (Addr × Obj)} {σ:St} {H:Hp} {s:Shared} {Q:VK} {k k':Bool} (I:Inv X pins σ H s) (q:Q (.bl k) H) (e:k=k'):EP X pins σ Q (.bool k') s:=by
 subst e
 exact ⟨.bl k,H,I,rfl,q⟩
theorem zqN:OpR X (compareOp .Lt) (rI0 fun i j => .bl (decide (i < j))):=opB0 fun _ _ _ _ _ _ _ q=>lt_int q
theorem zqO:OpR X (compareOp .Gt) (rI0 fun i j => .bl (decide (j < i))):=opB0 fun _ _ _ _ _ _ _ q=>gt_int q
theorem zld:OpR X (compareOp .In) (fun x y H Q=>∃ i j,x = .str i∧y = .str j∧Q (.bl (!(Builtin.Str.occurrences j i 0 j.length 1).isEmpty)) H):=by
 intro pins s σ H x y v u Q I rx ry h
 obtain ⟨i,j,rfl,rfl,q⟩:=h
 obtain ⟨t,rfl⟩:=rx
 obtain ⟨t',rfl⟩:=ry
 exact in_str (ziI I q rfl)
theorem zo5:OpR X (compareOp .Is) (fun x y H Q=>y = .non∧Q (.bl (decide (x = .non))) H):=by
 intro pins s σ H x y v u Q I rx ry h
 obtain ⟨rfl,q⟩:=h
 cases ry
 refine is_none_gen (ziI I q ?_)
 cases x <;> first
  | (cases rx;rfl)
  | (obtain ⟨t,rfl⟩:=rx;rfl)
theorem znY:OpR X (compareOp .IsNot) (fun x y H Q=>y = .non∧Q (.bl (!decide (x = .non))) H):=by
 intro pins s σ H x y v u Q I rx ry h
 obtain ⟨rfl,q⟩:=h
 cases ry
 refine isnot_none_gen (ziI I q ?_)
 cases x <;> first
  | (cases rx;rfl)
  | (obtain ⟨t,rfl⟩:=rx;rfl)
theorem zg5:OpR X (compareOp .NotIn) (fun x y H Q=>∃ i j,x = .str i∧y = .str j∧Q (.bl (!(!(Builtin.Str.occurrences j i 0 j.length 1).isEmpty))) H):=by
 intro pins s σ H x y v u Q I rx ry h
 obtain ⟨i,j,rfl,rfl,q⟩:=h
 obtain ⟨t,rfl⟩:=rx
 obtain ⟨t',rfl⟩:=ry
 exact notIn_str (ziI I q rfl)
theorem OpR.or {f:Value→Value→Sem Value} {r r':R2} (h:OpR X f r) (h':OpR X f r'):OpR X f (fun x y H Q=>r x y H Q∨r' x y H Q):=by
 intro pins s σ H x y v u Q I rx ry q
 rcases q with q | q
 ·exact h pins s σ H x y v u Q I rx ry q
 ·exact h' pins s σ H x y v u Q I rx ry q
theorem zaC (b:Expr) {op:CmpOp} (h:op ≠ .In:=by decide) (h2:op ≠ .NotIn:=by decide):behindInMarks op b=false:=by
 have e1:(op == CmpOp.In)=false:=by cases op <;> first | rfl | exact absurd rfl h
 have e2:(op == CmpOp.NotIn)=false:=by cases op <;> first | rfl | exact absurd rfl h2
 cases b <;> simp [behindInMarks,e1,e2]
theorem zol {op:CmpOp} {r:R2} (ho:OpR X (compareOp op) r) (ha:PE X a ta) (hb:PE X b tb) (hm:behindInMarks op b=false):PE X (.Compare a [op] [b] pos) (tOp r ta tb):=by
 intro pins s σ H Q I h
 exact wpAny_Compare1 (binT ha hb I h fun v u s2 x y H2 I2 rx ry q=>ho pins s2 σ H2 x y v u Q I2 rx ry q) hm
def zoV (t:TE):TT:=fun σ H Q=>t σ H fun x H'=>∃ k,x = .bl k∧Q k H'
theorem zof {op:CmpOp} {r:R2} (ho:OpR X (compareOp op) r) (ha:PE X a ta) (hb:PE X b tb) (hm:behindInMarks op b=false):PT X (.Compare a [op] [b] pos) (zoV (tOp r ta tb)):=by
 intro pins s σ H Q I h
 refine wpAny_isTrue_Compare1 (thn (ha pins s σ H _ I h) fun v s1 ⟨x,H1,I1,r1,q1⟩=>thn (hb pins s1 σ H1 _ I1 q1) fun u s2 ⟨y,H2,I2,r2,q2⟩ =>
  thn (ho pins s2 σ H2 x y v u _ I2 r1 r2 q2) fun c s3 ⟨z,H3,I3,r3,k,e,q3⟩=>?_) hm
 subst e
 cases r3
 exact wpAny_truthy_bool ⟨H3,I3,q3⟩
theorem zhl:(sizeLine:Nat) < 2 ^ 63:=by rw [sizeLine_eq];decide
theorem zjF:OpR X (binaryOp .Add) (fun x y H Q=>∃ i j,x = .str i∧y = .str j∧i.length + j.length ≤ sizeLine∧Q (.str (i ++ j)) H):=by
 intro pins s σ H x y v u Q I rx ry h
 obtain ⟨i,j,rfl,rfl,hz,q⟩:=h
 obtain ⟨t,rfl⟩:=rx
 obtain ⟨t',rfl⟩:=ry
 exact add_str (fun t' tk=>⟨.str (i ++ j),H,I.tok _,⟨_,rfl⟩,q⟩) hz
theorem vals1 {x:V} {us:List Value} (r:Vals [x] us):∃ u,us=[u]∧RelV x u:=by
 cases r with
 | cons r1 r2=>cases r2;exact ⟨_,rfl,r1⟩
theorem vals2 {x y:V} {us:List Value} (r:Vals [x,y] us):∃ u w',us=[u,w']∧RelV x u∧RelV y w':=by
 cases r with
 | cons r1 r2 =>
  cases r2 with
  | cons r3 r4=>cases r4;exact ⟨_,_,rfl,r1,r3⟩
theorem zlf (hc:X.calm=true):zdc X (.builtin "max") (fun xs H Q=>∃ i j,xs=[.int i, .int j]∧Q (.int (if j > i then j else i)) H):=by
 intro pins s σ H xs us Q I r h
 obtain ⟨i,j,rfl,q⟩:=h
 obtain ⟨u,w',rfl,⟨t,rfl⟩,⟨t',rfl⟩⟩:=vals2 r
 refine max_two_ints (I.ok.hd hc) fun h' tk k=>⟨_,H,I.kept k,?_,q⟩
 by_cases hj:j > i
 ·rw [if_pos hj,if_pos hj];exact ⟨_,rfl⟩
 ·rw [if_neg hj,if_neg hj];exact ⟨_,rfl⟩
theorem zk5 (hc:X.calm=true):zdc X (.builtin "min") (fun xs H Q=>∃ i j,xs=[.int i, .int j]∧Q (.int (if j < i then j else i)) H):=by
 intro pins s σ H xs us Q I r h
 obtain ⟨i,j,rfl,q⟩:=h
 obtain ⟨u,w',rfl,⟨t,rfl⟩,⟨t',rfl⟩⟩:=vals2 r
 refine min_two_ints (I.ok.hd hc) fun h' tk k=>⟨_,H,I.kept k,?_,q⟩
 by_cases hj:j < i
 ·rw [if_pos hj,if_pos hj];exact ⟨_,rfl⟩
 ·rw [if_neg hj,if_neg hj];exact ⟨_,rfl⟩
theorem zkP:zdc X (.type "int") (fun xs H Q=>(∃ i,xs=[.int i]∧Q (.int i) H)∨∃ k,xs=[.bl k]∧Q (.int (if k then 1 else 0)) H):=by
 intro pins s σ H xs us Q I r h
 rcases h with ⟨i,rfl,q⟩ | ⟨k,rfl,q⟩
 ·obtain ⟨u,rfl,t,rfl⟩:=vals1 r
  exact call_int_int ⟨.int i,H,I,⟨_,rfl⟩,q⟩
 ·obtain ⟨u,rfl,r1⟩:=vals1 r
  cases r1
  exact call_int_bool ⟨.int (if k then 1 else 0),H,I.tok _,⟨_,rfl⟩,q⟩
theorem zhB:zdc X (.type "str") (fun xs H Q=>∃ i,xs=[.int i]∧i.natAbs.log2 < 1920∧Q (.str (toString i)) H):=by
 intro pins s σ H xs us Q I r h
 obtain ⟨i,rfl,hz,q⟩:=h
 obtain ⟨u,rfl,t,rfl⟩:=vals1 r
 exact PySem.P.str_of_int hz ⟨.str _,H,I.tok _,⟨_,rfl⟩,q⟩
end
end L2
namespace L2
open PySem PySem.Spec PyProof.Rows
structure ObjM (h:Heap) (x dx C:Addr) (mA:Str→Option Value):Prop where
 obj:h.get? x=some (PySem.W.instObj C dx)
 ns:h.Ns1 dx mA
 ne:dx ≠ x
theorem zlo {h:Heap} {dx:Addr} {mA:Str→Option Value} (n:h.Ns1 dx mA):∃ od,h.get? dx=some od∧∀ name,PySem.W.lookIn name od=some (mA name):=by
 obtain ⟨o,es,ep,ho,hd,hk,_,hm⟩:=n
 refine ⟨o,ho,fun name=>?_⟩
 have e:=hm name
 unfold nsFind findBy at e
 rw [← Array.find?_toList] at e
 unfold PySem.W.lookIn
 rw [hd]
 dsimp only
 split
 ·rename_i y q
  rw [q] at e
  exact congrArg some e
 ·rename_i q
  rw [q] at e
  have a:es.toList.any (·.refKey)=false:=by
   rw [List.any_eq_false]
   intro y hy
   obtain ⟨z,t,hkey⟩:=hk y (Array.mem_toList_iff.mp hy)
   simp [DictEntry.refKey,hkey]
  have a':¬ es.toList.any (·.refKey)=true:=by rw [a];exact Bool.false_ne_true
  rw [if_neg a']
  exact congrArg some e
theorem ObjM.look {h:Heap} {x dx C:Addr} {mA:Str→Option Value} (I:ObjM h x dx C mA):∃ od,PySem.W.InstAt h x (PySem.W.instObj C dx) C (some od)∧∀ name,PySem.W.lookIn name od=some (mA name) :=
 let ⟨od,ho,hl⟩:=zlo I.ns
 ⟨od,⟨I.obj,rfl,rfl,ho⟩,hl⟩
section
variable {prog:Program} {w:World} {A:Around} {E:Value→Shared→Prop} {s:Shared} {K:PySem.W.Frag} {x dx C f:Addr} {mA:Str→Option Value} {name:Str} {v:Value}
end
theorem RelO.some_of {v:V} {o:Option Value} (r:RelO (some v) o):∃ u,o=some u∧RelV v u:=by
 cases o with
 | none=>exact (show False from r).elim
 | some u=>exact ⟨u,rfl,r⟩
theorem zkY {v:V} {u:Value} (r:RelV v u):PySem.W.handedIn u=true:=by
 cases v with
 | non=>cases (show u=Value.none from r);rfl
 | bl b=>cases (show u=Value.bool b from r);rfl
 | int i=>obtain ⟨t,e⟩:=(show ∃ t,u=Value.int i t from r);cases e;rfl
 | str x=>obtain ⟨t,e⟩:=(show ∃ t,u=Value.str x t from r);cases e;rfl
 | byt b=>obtain ⟨t,e⟩:=(show ∃ t,u=Value.bytes b t from r);cases e;rfl
 | flt b=>obtain ⟨t,e⟩:=(show ∃ t,u=Value.float b t from r);cases e;rfl
 | ref a=>cases (show u=Value.ref a from r);rfl
 | ty n=>cases (show u=Value.type n from r);rfl
section
variable {P:Program} {w:World} {H H':Hp} {h h':Heap} {a C dx:Addr} {fs fs':List (Str × V)}
theorem zns (hok:HOk P w H h) (e:H a=some (.ins C dx fs)):∃ mA,ObjM h a dx C mA∧(∀ f,RelO (fs.lookup f) (mA f))∧PySem.Within mA (fs.map (·.1))∧fs.length ≤ 1000∧H dx=some (.own a):=by
 obtain ⟨d,z,ne,ob,mA,n,r,q⟩:=(show zcl P w H h a (.ins C dx fs) from hok a _ e)
 exact ⟨mA,⟨ob,n,ne⟩,r,q,z,d⟩
end
structure Cls (K:PySem.W.Frag) (C:Addr):Prop where
 pg:PySem.W.plainGet K C Str.empty=true
 hd:PySem.W.hasDictIn K C=true
 po:PySem.W.plainOver K C=true
 sa:PySem.W.findIn K (.ref C) "__setattr__" = some (some (.builtin "object.__setattr__"))
theorem Cls.get {K:PySem.W.Frag} {C:Addr} (c:Cls K C) (f:Str):PySem.W.plainGet K C f=true:=c.pg
structure Con (K:PySem.W.Frag) (C:Addr) (f:Str) (v:V) (u:Value):Prop where
 at_:PySem.W.findIn K (.ref C) f=some (some u)
 rel:RelV v u
 get:PySem.W.specialIn K u "__get__" = some none
 cp:PySem.W.copiedNames.contains f=false
structure Meth (K:PySem.W.Frag) (C:Addr) (m:Str) (f:Addr):Prop where
 at_:PySem.W.findIn K (.ref C) m=some (some (.ref f))
 fn:PySem.W.isFn K (.ref f)=true
 kp:PySem.W.keepIn K (.ref f)=true
section
variable {X:Cx} {pins:List (Addr × Obj)} {σ:St} {H:Hp} {s:Shared} {a C dx:Addr} {fs:List (Str × V)} {f:Str} {v:V} {A:Around} {E:Value→Shared→Prop}
theorem Inv.made (I:Inv X pins σ H s):Inv X pins σ (upd (upd H s.heap.objs.size (.own (s.heap.objs.size + 1))) (s.heap.objs.size + 1) (.ins C s.heap.objs.size []))
  { s with heap:=(s.heap.push PySem.W.emptyDict).push (PySem.W.instObj C s.heap.objs.size) }:=by
 have e1:(s.heap.push PySem.W.emptyDict).get? s.heap.objs.size=some PySem.W.emptyDict:=Heap.get?_push_size s.heap rfl
 have e2:((s.heap.push PySem.W.emptyDict).push (PySem.W.instObj C s.heap.objs.size)).get? (s.heap.objs.size + 1)=some (PySem.W.instObj C s.heap.objs.size):=by
  have:=Heap.get?_push_size (s.heap.push PySem.W.emptyDict) (o:=PySem.W.instObj C s.heap.objs.size) rfl
  rwa [Heap.size_push] at this
 have e3:(s.heap.push PySem.W.emptyDict).Ns s.heap.objs.size (fun _=>none):=⟨PySem.W.emptyDict,#[],_,e1,rfl,(fun e he=>absurd he (by simp)),fun _=>rfl⟩
 have I1:=I.laid (a:=s.heap.objs.size) (o := .own (s.heap.objs.size + 1)) (h':=s.heap.push PySem.W.emptyDict) (t':=s.toks) (fun b u q=>Heap.get?_push_of_some _ q) (Nat.le_refl _) ⟨_,e1⟩
 refine I1.laid (a:=s.heap.objs.size + 1) (o := .ins C s.heap.objs.size []) (t':=s.toks) (fun b u q=>Heap.get?_push_of_some _ q) (Nat.le_of_eq (Heap.size_push _ _)) ?_
 have ne:s.heap.objs.size ≠ s.heap.objs.size + 1:=Nat.ne_of_lt (Nat.lt_succ_self _)
 refine ⟨by rw [zaj ne,zaG],Nat.zero_le _,ne,e2,fun _=>none,(Heap.Ns1.of_empty e3).at fun o q=>Heap.get?_push_of_some _ q,fun _=>True.intro,fun y hy=>absurd rfl hy⟩
theorem zkb {prog:Program} {w:World} {env:Env} {e:Expr} {f:Str} {pos:Pos} {s:Shared} {Q:Value→Shared→Prop} (hb:attributeBase e f env (eval e env)=eval e env)
  (h:wpAny (model prog w) A (eval e env) (fun o s₁=>wpAny (model prog w) A (getAttr o f true) Q E s₁) E s):wpAny (model prog w) A (eval (.Attribute e f pos) env) Q E s :=
 Attribute_any_ h (by rw [arm_eval_Attribute,hb])
end
section
variable {X:Cx} {o e value:Expr} {f:Str} {pos pos' tpos:Pos} {ta tv:TE}
end
section
variable {X:Cx} {pins:List (Addr × Obj)} {σ:St} {H:Hp} {s:Shared} {A:Around} {E:Value→Shared→Prop} {Q:Value→Shared→Prop} {c:Value} {b:Bool}
inductive TyOf (K:PySem.W.Frag) (H:Hp):V→Value→Prop where
 | non:TyOf K H .non (.type "NoneType")
 | bl (x:Bool):TyOf K H (.bl x) (.type "bool")
 | int (i:Int):TyOf K H (.int i) (.type "int")
 | str (x:Str):TyOf K H (.str x) (.type "str")
 | flt (x:UInt64):TyOf K H (.flt x) (.type "float")
 | lst {a:Addr} {xs:List V} (e:H a=some (.lst xs)):TyOf K H (.ref a) (.type "list")
 | frz {a:Addr} {o:Obj} {xs:List V} (e:H a=some (.frz o (.lst xs))):TyOf K H (.ref a) (.type "list")
 | tup {a:Addr} {xs:List V} (e:H a=some (.tup xs)):TyOf K H (.ref a) (.type "tuple")
 | dK {a:Addr} {kvs:List (Key × V)} (e:H a=some (.dK kvs)):TyOf K H (.ref a) (.type "dict")
 | dT {a:Addr} {kvs:List (List Key × V)} (e:H a=some (.dT kvs)):TyOf K H (.ref a) (.type "dict")
 | ins {a C dx:Addr} {fs:List (Str × V)} (e:H a=some (.ins C dx fs)) (cl:Cls K C) (ha:PySem.W.findIn K (.ref C) "__class__" = some (some (.builtin "object.__class__")))
   (hn:PySem.W.specialIn K (.builtin "object.__class__") "__get__" = some (some (.builtin "getset_descriptor.__get__"))) (htk:PySem.W.takesIn K (.builtin "object.__class__")=some true)
   (hm:PySem.W.mroIn K C (.type "object")=some true):TyOf K H (.ref a) (.ref C)
theorem zkA {x:V} {u t:Value} (I:Inv X pins σ H s) (rx:RelV x u) (ty:TyOf X.K H x t) (e:PySem.W.kitOne X.K t c=some b) (h:∀ tk,Q (.bool b) { s with toks:=tk }) :
  wpAny (model X.prog X.w) A (call (.builtin "isinstance") [u,c]) Q E s:=by
 cases ty with
 | non=>cases (show u=Value.none from rx);exact PySem.W.kia_one PySem.W.kitx_none I.kIn True.intro e (fun z=>nomatch z) h
 | bl y=>cases (show u=Value.bool y from rx);exact PySem.W.kia_one PySem.W.kitx_bool I.kIn True.intro e (fun z=>nomatch z) h
 | int i=>obtain ⟨t,q⟩:=(show ∃ t,u=Value.int i t from rx);cases q;exact PySem.W.kia_one PySem.W.kitx_int I.kIn True.intro e (fun z=>nomatch z) h
 | str y=>obtain ⟨t,q⟩:=(show ∃ t,u=Value.str y t from rx);cases q;exact PySem.W.kia_one PySem.W.kitx_str I.kIn True.intro e (fun z=>nomatch z) h
 | flt y=>obtain ⟨t,q⟩:=(show ∃ t,u=Value.float y t from rx);cases q;exact PySem.W.kia_one PySem.W.kitx_float I.kIn True.intro e (fun z=>nomatch z) h
 | @lst a xs ea =>
  cases (show u=Value.ref a from rx)
  obtain ⟨_,_,n,_,h1⟩:=(show zcl X.prog X.w H s.heap a (.lst xs) from I.hok a _ ea)
  exact PySem.W.kia_one PySem.W.kitx_list I.kIn ⟨_,h1,rfl⟩ e (fun z=>nomatch z) h
 | @frz a ob xs ea =>
  cases (show u=Value.ref a from rx)
  obtain ⟨_,_,_,n,_,h1⟩:=(show zcl X.prog X.w H s.heap a (.frz ob (.lst xs)) from I.hok a _ ea)
  exact PySem.W.kia_one PySem.W.kitx_list I.kIn ⟨_,h1,rfl⟩ e (fun z=>nomatch z) h
 | @tup a xs ea =>
  cases (show u=Value.ref a from rx)
  obtain ⟨_,_,_,p⟩:=(show zcl X.prog X.w H s.heap a (.tup xs) from I.hok a _ ea)
  obtain ⟨o,h1,h2,_⟩:=p
  exact PySem.W.kia_one PySem.W.kitx_tuple I.kIn ⟨o,h1,h2⟩ e (fun z=>nomatch z) h
 | @dK a kvs ea =>
  cases (show u=Value.ref a from rx)
  obtain ⟨_,_,vs,_,p⟩:=(show zcl X.prog X.w H s.heap a (.dK kvs) from I.hok a _ ea)
  obtain ⟨o,es,ep,h1,h2,_⟩:=p
  exact PySem.W.kia_one PySem.W.kitx_dict I.kIn ⟨o,h1,h2.1⟩ e (fun z=>nomatch z) h
 | @dT a kvs ea =>
  cases (show u=Value.ref a from rx)
  obtain ⟨_,_,xs,_,o,es,ep,h1,h2,_⟩:=(show zcl X.prog X.w H s.heap a (.dT kvs) from I.hok a _ ea)
  exact PySem.W.kia_one PySem.W.kitx_dict I.kIn ⟨o,h1,h2.1⟩ e (fun z=>nomatch z) h
 | @ins a C dx fs ea cl ha hn htk hm =>
  cases (show u=Value.ref a from rx)
  obtain ⟨mA,O,_⟩:=zns I.hok ea
  obtain ⟨od,J,_⟩:=O.look
  exact PySem.W.kia_one (PySem.W.kitx_own (cl.get _) cl.hd ha hn htk hm) I.kIn J e (fun z=>nomatch z) h
end
end L2
namespace L2
open PySem PySem.Spec PyProof.Rows
structure Room (k:Nat) (A:Around):Prop where
 hd:A.handled=none
 dp:A.depth + 3 * k + 5 < recursionLimit
 un:A.units + 16 * k + 200 < cLine
theorem Room.mono {j k:Nat} {A:Around} (r:Room k A) (h:j ≤ k):Room j A:=⟨r.hd,by have:=r.dp;omega,by have:=r.un;omega⟩
theorem Room.deeper {k:Nat} {A:Around} (r:Room (k + 1) A) (env:Env):Room k (A.deeper env) :=
 ⟨r.hd,by have:=r.dp;show A.depth + 1 + 3 * k + 5 < _;omega,by have:=r.un;show A.units + 3 + 16 * k + 200 < _;omega⟩
theorem zjn {A:Around} {C:Addr} {us:List Value} {kw:List (Str × Value)}:(A.under (.builtin "type.__call__" ⟨.ref C :: us,kw⟩)).depth=A.depth + 1:=by
 first | rfl | simp [Around.under,Code.weight,Code.isCreation,Code.isGuard,Code.isCaller,Code.frames,Code.isFrame,guardIds]
theorem zjN {A:Around} {C:Addr} {us:List Value} {kw:List (Str × Value)}:(A.under (.builtin "type.__call__" ⟨.ref C :: us,kw⟩)).units=A.units + 1:=by
 first | rfl | simp [Around.under,Code.cUnits,Code.frames,Code.isFrame]
theorem Room.make {k:Nat} {A:Around} (r:Room (k + 1) A) (C:Addr) (us:List Value) (kw:List (Str × Value)):Room k (A.under (.builtin "type.__call__" ⟨.ref C :: us,kw⟩)) :=
 ⟨r.hd,by have:=r.dp;rw [zjn];omega,by have:=r.un;rw [zjN];omega⟩
theorem Room.depth {k:Nat} {A:Around} (r:Room k A):A.depth < recursionLimit:=by have:=r.dp;omega
theorem Room.units {k:Nat} {A:Around} (r:Room k A):A.units + 64 < cLine:=by have:=r.un;omega
def tNil:TA:=fun _ H Q=>Q [] H
def zqV (ta:TE) (tr:TA):TA:=fun σ H Q=>ta σ H fun x H1=>tr σ H1 fun xs H2=>Q (x :: xs) H2
section
variable {X:Cx} {e:Expr} {es:List Expr} {te:TE} {t:TA} {pos:Pos}
theorem zk8:PA X [] tNil:=fun _ _ _ _ H Q I h=>Calls.spliced_nil ⟨[],H,I, .nil,h⟩
theorem zgn (ha:PE X e te) (hr:PA X es t) (hs:starEach (e :: es) X.env=(false,eval e X.env) :: starEach es X.env:=by rfl):PA X (e :: es) (zqV te t):=by
 intro pos pins s σ H Q I h
 rw [hs]
 show wpAny _ _ (spliced ((false,eval e X.env) :: backTo pos (starEach es X.env))) _ _ s
 refine Calls.spliced_cons (thn (ha pins s σ H _ I h) fun u s1 ⟨x,H1,I1,r1,q1⟩=>?_)
 exact thn (hr pos pins s1 σ H1 _ I1 q1) fun us s2 ⟨xs,H2,I2,r2,q2⟩=>⟨x :: xs,H2,I2, .cons r1 r2,q2⟩
def tTup (t:TA):TE:=fun σ H Q=>t σ H fun xs H1=>xs.length ≤ sizeLine∧∀ p,H1 p=none→Q (.ref p) (upd H1 p (.tup xs))
def tLst (t:TA):TE:=fun σ H Q=>t σ H fun xs H1=>xs.length ≤ sizeLine∧∀ p,H1 p=none→Q (.ref p) (upd H1 p (.lst xs))
theorem zpK {x1} (h:PA X es t):PE X (.Tuple es x1 pos) (tTup t):=by
 intro pins s σ H Q I hq
 refine wpAny_Tuple_spliced (thn (h pos pins s σ H _ I hq) fun us s1 ⟨xs,H1,I1,r,z,q⟩=>⟨by rw [← r.length];exact z,?_⟩)
 have hf:H1 s1.heap.objs.size=none:=I1.hok.fresh (Nat.le_refl _)
 refine ⟨.ref s1.heap.objs.size,upd H1 s1.heap.objs.size (.tup xs),I1.laid (t':=s1.toks) (fun b u e=>Heap.get?_push_of_some _ e) (Nat.le_refl _) ?_,rfl,q _ hf⟩
 exact ⟨z,us,r,⟨_,Heap.get?_push_size _ rfl,rfl,_,rfl⟩⟩
theorem zoJ (h:PA X es t):PE X (.List es pos) (tLst t):=by
 intro pins s σ H Q I hq
 refine wpAny_List_spliced (thn (h pos pins s σ H _ I hq) fun us s1 ⟨xs,H1,I1,r,z,q⟩=>⟨by rw [← r.length];exact z,?_⟩)
 have hf:H1 s1.heap.objs.size=none:=I1.hok.fresh (Nat.le_refl _)
 refine ⟨.ref s1.heap.objs.size,upd H1 s1.heap.objs.size (.lst xs),I1.laid (t':=s1.toks) (fun b u e=>Heap.get?_push_of_some _ e) (Nat.le_refl _) ?_,rfl,q _ hf⟩
 exact ⟨z,us,0,r,Heap.get?_push_size _ rfl⟩
end
abbrev Sp:=List V→Hp→VK→XK→Prop
abbrev CXT:=List Env→Hp→Shared→XK→Value→Shared→Prop
structure Env0 (P:Program) (w:World) (K:PySem.W.Frag) (mg:Str→Option Value) (base:Heap) (A:Around) (outer:List Env) (s:Shared) (H:Hp):Prop where
 frames:A.frames=some outer
 mod:Mod K mg base
 bs:∀ b o,base.get? b=some o→s.heap.get? b=some o∧H b=none
 bsz:base.objs.size ≤ s.heap.objs.size
 funs:s.heap.FunFrames base outer
 frf:∀ b ∈ frs outer,H b=none
 hok:HOk P w H s.heap
 bare:AllBare s.gens
def CE (outer:List Env) (P:Program) (w:World) (H:Hp) (s:Shared) (Q:VK) (u:Value) (s':Shared):Prop :=
 ∃ v H',s'.os=s.os∧AllBare s'.gens∧Un (frs outer) [] H H' s.heap s'.heap∧HOk P w H' s'.heap∧RelV v u∧Q v H'
def CR (CX:CXT) (outer:List Env) (P:Program) (w:World) (H:Hp) (s:Shared) (Q:VK) (E:XK) (r:Result) (s':Shared):Prop :=
 match r with
 | .ok (.ret u)=>CE outer P w H s Q u s'
 | .ok _=>False
 | .error e=>CX outer H s E e s'
structure FnOk (P:Program) (w:World) (K:PySem.W.Frag) (mg:Str→Option Value) (base:Heap) (CX:CXT) (k:Nat) (f:Addr) (fd:FuncData) (ps:List Str) (sp:Sp):Prop where
 len:∀ vs H Q E,sp vs H Q E→vs.length=ps.length
 run:∀ (A:Around) (outer:List Env) (s:Shared) (H:Hp) (args:Args) (us:List Value) (vs:List V) (Q:VK) (E:XK),Room k A→Env0 P w K mg base A outer s H→BindsTo s fd args (ps.zip us)→Vals vs us→sp vs H Q E →
  codeAny (model P w) A (.call (.ref f) args) (CR CX outer P w H s Q E) s
theorem FnOk.mono {P:Program} {w:World} {K:PySem.W.Frag} {mg:Str→Option Value} {base:Heap} {CX:CXT} {j k:Nat} {f:Addr} {fd:FuncData} {ps:List Str} {sp:Sp} (F:FnOk P w K mg base CX j f fd ps sp) (h:j ≤ k) :
  FnOk P w K mg base CX k f fd ps sp:=⟨F.len,fun A outer s H args us vs Q E hr=>F.run A outer s H args us vs Q E (hr.mono h)⟩
theorem FnOk.imp {P:Program} {w:World} {K:PySem.W.Frag} {mg:Str→Option Value} {base:Heap} {CX:CXT} {k:Nat} {f:Addr} {fd:FuncData} {ps:List Str} {sp sp':Sp} (F:FnOk P w K mg base CX k f fd ps sp)
  (h:∀ vs H Q E,sp' vs H Q E→sp vs H Q E):FnOk P w K mg base CX k f fd ps sp' :=
 ⟨fun vs H Q E q=>F.len vs H Q E (h _ _ _ _ q),fun A outer s H args us vs Q E hr he hb hv hs=>F.run A outer s H args us vs Q E hr he hb hv (h _ _ _ _ hs)⟩
theorem Env0.make {P:Program} {w:World} {K:PySem.W.Frag} {mg:Str→Option Value} {base:Heap} {A:Around} {outer:List Env} {s:Shared} {H:Hp} (e:Env0 P w K mg base A outer s H) (C:Addr) (us:List Value) (kw:List (Str × Value)) :
  Env0 P w K mg base (A.under (.builtin "type.__call__" ⟨.ref C :: us,kw⟩)) outer s H:=⟨by first | exact e.frames | (simpa [Around.under,Code.envs,Code.isFrame,pushEnvs] using e.frames),e.mod,e.bs,e.bsz,e.funs,e.frf,e.hok,e.bare⟩
section
variable {X:Cx} {pins:List (Addr × Obj)} {σ:St} {H:Hp} {s s':Shared}
theorem Inv.env0 (I:Inv X pins σ H s):Env0 X.prog X.w X.K X.mg X.base X.A X.stack s H :=
 ⟨I.ok.frames,I.ok.mod,I.bs,Nat.le_trans I.ok.bsz I.sz,I.stack,I.zh3,I.hok,I.bare⟩
theorem Inv.after {Q:VK} {u:Value} (I:Inv X pins σ H s) (h:CE X.stack X.prog X.w H s Q u s'):EP X pins σ Q u s':=by
 obtain ⟨v,H',os,bare,un,hok,r,q⟩:=h
 obtain ⟨hh,g,d,t,os'⟩:=s'
 obtain rfl:os'=s.os:=os
 exact ⟨v,H',I.call (h':=hh) (g':=g) (d':=d) (t':=t) (ch:=[]) un hok bare (fun b z=>absurd z (by simp)),r,q⟩
end
def zm6 (sp:Sp) (dvs:List V) (E:XK) (t:TA):TE:=fun σ H Q=>t σ H fun vs H1=>sp (vs ++ dvs) H1 Q E
def Binds (K:PySem.W.Frag) (fd:FuncData) (ps:List Str) (ds:List Value):Prop :=
 ∀ (s:Shared) (us:List Value),K.In s.heap→(us ++ ds).length=ps.length→BindsTo s fd ⟨us,[]⟩ (ps.zip (us ++ ds))
theorem Binds.all {K:PySem.W.Frag} {fd:FuncData} {ps:List Str} (h:∀ us:List Value,us.length=ps.length→bindArgs fd ⟨us,[]⟩ = pure (ps.zip us)):Binds K fd ps []:=fun s us _ hl=>by
 rw [List.append_nil] at hl ⊢
 exact .of_eq (h us hl)
def Passes (CX:CXT) (X:Cx) (E:XK):Prop:=∀ (pins:List (Addr × Obj)) (σ:St) (H:Hp) (s:Shared) (e:Value) (s':Shared),Inv X pins σ H s→CX X.stack H s E e s'→X.xe e s'
section
variable {X:Cx} {CX:CXT} {k:Nat} {f C:Addr} {fd:FuncData} {ps:List Str} {sp:Sp} {dvs:List V} {ds:List Value} {E:XK} {x m:Str} {p pos apos:Pos} {e o:Expr} {es:List Expr} {ta:TE} {t:TA}
theorem zpW {pins:List (Addr × Obj)} {σ:St} {H:Hp} {s:Shared} {Q:VK} {us:List Value} {vs:List V} (F:FnOk X.prog X.w X.K X.mg X.base CX k f fd ps sp) (hr:Room k X.A) (hb:Binds X.K fd ps ds) (hd:Vals dvs ds) (hx:Passes CX X E)
  (I:Inv X pins σ H s) (r:Vals vs us) (h:sp (vs ++ dvs) H Q E):wpAny (model X.prog X.w) X.A (call (.ref f) us) (EP X pins σ Q) X.xe s:=by
 have r2:Vals (vs ++ dvs) (us ++ ds):=r.append hd
 have hl:(us ++ ds).length=ps.length:=by rw [← r2.length];exact F.len _ _ _ _ h
 refine wpAny_call (codeAny_mono (F.run X.A X.stack s H ⟨us,[]⟩ (us ++ ds) (vs ++ dvs) Q E hr I.env0 (hb s us I.kIn hl) r2 h) fun r s' hq=>?_)
 cases r with
 | error e=>exact hx pins σ H s e s' I hq
 | ok fl =>
  cases fl with
  | ret u=>exact I.after hq
  | next=>exact False.elim hq
  | brk=>exact False.elim hq
  | cont=>exact False.elim hq
theorem znZ (F:FnOk X.prog X.w X.K X.mg X.base CX k f fd ps sp) (hr:Room k X.A) (hg:Gl X x) (hm:X.mg x=some (.ref f)) (hk:PySem.W.keepIn X.K (.ref f)=true) (hb:Binds X.K fd ps ds) (hd:Vals dvs ds) (hx:Passes CX X E)
  (ha:PA X (e :: es) t) (hdb:(x == ("__debug__" : Str))=false:=by decide) (he:starEach (e :: es) X.env=(false,eval e X.env) :: starEach es X.env:=by rfl) (hpl:(backTo pos (starEach es X.env)).any (·.1)=false:=by rfl) :
  PE X (.Call (.Name x p) (e :: es) [] pos) (zm6 sp dvs E t):=by
 intro pins s σ H Q I h
 refine wpAny_Call_Name_kw (zdN I hg hm ?_ hdb)
 refine PySem.W.callWith_K (h₀:=X.base) I.ok.mod.kin hk (thn (ha pos pins s σ H _ I h) fun us s1 ⟨vs,H1,I1,r,q⟩=>⟨I1.kIn,?_⟩) he hpl
 exact zpW F hr hb hd hx I1 r q
structure Mk (K:PySem.W.Frag) (C f:Addr):Prop where
 makes:PySem.W.makesIn K C=true
 init:PySem.W.findIn K (.ref C) "__init__" = some (some (.ref f))
 fn:PySem.W.isFn K (.ref f)=true
 kp:PySem.W.keepIn K (.ref C)=true
end
section
variable {X:Cx} {CX:CXT} {k:Nat} {f C:Addr} {fd:FuncData} {ps ks:List Str} {sp:Sp} {E:XK} {x m:Str} {p pos apos kpos:Pos} {e o:Expr} {es:List Expr} {kws:List Keyword} {te ta:TE} {t tk:TA} {nm:Option Str}
structure zq0 (K:PySem.W.Frag) (fd:FuncData) (ps ks:List Str) (g:List Value→List Value→List Value) (gV:List V→List V→List V):Prop where
 to:∀ (s:Shared) (us ws:List Value),K.In s.heap→(g us ws).length=ps.length→BindsTo s fd ⟨us,ks.zip ws⟩ (ps.zip (g us ws))
 rel:∀ {vs:List V} {us:List Value} {zs:List V} {ws:List Value},Vals vs us→Vals zs ws→Vals (gV vs zs) (g us ws)
variable {g:List Value→List Value→List Value} {gV:List V→List V→List V}
end
structure zat (N P:List Str) (sc:Scope):Prop where
 kind:sc.kind = .function
 co:sc.isCoroutine=false
 gen:sc.isGenerator=false
 nd:N.Nodup
 pre:N.take P.length=P
 par:∀ x ∈ P,sc.names.lookup x=some .local∨sc.names.lookup x=some .cell
 nofree:∀ y ∈ sc.names,y.2 ≠ .free
theorem zhb {kindOf:Str→Option NameKind} {x:Str}:∀ {binds:List (Str × Value)} {m:Str→Option Value},(∀ v,(x,v) ∉ binds)→bindL kindOf binds m x=m x
 | [],_,_=>rfl
 | (n,v) :: r,m,h=>by
  unfold bindL
  rw [zhb fun w hw=>h w (List.mem_cons_of_mem _ hw)]
  split
  ·have:x ≠ n:=by rintro rfl;exact h v List.mem_cons_self
   simp [this]
  ·rfl
theorem zg9 {kindOf:Str→Option NameKind} {x:Str}:∀ {binds:List (Str × Value)} {m:Str→Option Value},(∀ v,(x,v) ∉ binds)→bindC kindOf binds m x=m x
 | [],_,_=>rfl
 | (n,v) :: r,m,h=>by
  unfold bindC
  rw [zg9 fun w hw=>h w (List.mem_cons_of_mem _ hw)]
  split
  ·rfl
  ·have:x ≠ n:=by rintro rfl;exact h v List.mem_cons_self
   simp [this]
theorem zhs {kindOf:Str→Option NameKind} {x:Str} {v:Value}:∀ {P:List Str} {vs:List Value} {i:Nat} {m:Str→Option Value},P.Nodup→P[i]? = some x→vs[i]? = some v→kindOf x=some .local →
  bindL kindOf (P.zip vs) m x=some v
 | [],_,_,_,_,h,_,_=>by simp at h
 | _ :: _,[],_,_,_,_,h,_=>by simp at h
 | p :: P,w :: vs,0,m,nd,h1,h2,hk=>by
  simp at h1 h2;subst h1;subst h2
  show bindL kindOf ((p,w) :: P.zip vs) m p=_
  unfold bindL
  rw [zhb fun v hv=>(List.nodup_cons.mp nd).1 (List.of_mem_zip hv).1,if_pos hk]
  simp
 | p :: P,w :: vs,i + 1,m,nd,h1,h2,hk=>by
  show bindL kindOf ((p,w) :: P.zip vs) m x=_
  unfold bindL
  exact zhs (i:=i) (List.nodup_cons.mp nd).2 (by simpa using h1) (by simpa using h2) hk
theorem zht {kindOf:Str→Option NameKind} {x:Str} {v:Value}:∀ {P:List Str} {vs:List Value} {i:Nat} {m:Str→Option Value},P.Nodup→P[i]? = some x→vs[i]? = some v→kindOf x ≠ some .local →
  bindC kindOf (P.zip vs) m x=some v
 | [],_,_,_,_,h,_,_=>by simp at h
 | _ :: _,[],_,_,_,_,h,_=>by simp at h
 | p :: P,w :: vs,0,m,nd,h1,h2,hk=>by
  simp at h1 h2;subst h1;subst h2
  show bindC kindOf ((p,w) :: P.zip vs) m p=_
  unfold bindC
  rw [zg9 fun v hv=>(List.nodup_cons.mp nd).1 (List.of_mem_zip hv).1,if_neg hk]
  simp
 | p :: P,w :: vs,i + 1,m,nd,h1,h2,hk=>by
  show bindC kindOf ((p,w) :: P.zip vs) m x=_
  unfold bindC
  exact zht (i:=i) (List.nodup_cons.mp nd).2 (by simpa using h1) (by simpa using h2) hk
def start (N:List Str) (vs:List V):St:=vs.map some ++ List.replicate (N.length - vs.length) none
def cxOf (CX:CXT) (P:Program) (w:World) (K:PySem.W.Frag) (mg:Str→Option Value) (base:Heap) (N:List Str) (qual:Str) (scope:Scope) (f:Addr) (cd:Value) (A:Around) (outer:List Env) (s:Shared) (H:Hp) (E:XK):Cx where
 prog:=P
 w:=w
 K:=K
 mg:=mg
 base:=base
 A:=A.deeper (envOfC qual scope s.heap.objs.size f cd)
 N:=N
 s₀:=s
 H₀:=H
 env:=envOfC qual scope s.heap.objs.size f cd
 outer:=outer
 stack:=envOfC qual scope s.heap.objs.size f cd :: outer
 ex:=[]
 calm:=true
 fn:=fun _=>true
 pn:=[]
 xe:=fun e s'=>wpAny (model P w) (A.deeper (envOfC qual scope s.heap.objs.size f cd)) (leaving (envOfC qual scope s.heap.objs.size f cd) e) (fun _ s''=>CX outer H s E e s'') (fun e' s''=>CX outer H s E e' s'') s'
theorem ziZ {sc:Scope} {n:Nat} {x:Str} (h:sc.names.lookup x=some .cell):∃ c,(cellsFrom n sc.names []).lookup x=some c:=by
 have q:=PySem.W.cellsFrom_some sc.names n [] (.inl h)
 exact Option.isSome_iff_exists.mp q
theorem zd2 {CX:CXT} {P:Program} {w:World} {K:PySem.W.Frag} {mg:Str→Option Value} {base:Heap} {N ps:List Str} {qual:Str} {scope:Scope} {f:Addr} {cd:Value} {A:Around} {outer:List Env} {s s1:Shared} {H:Hp} {E:XK} {us:List Value} {vs:List V}
  (S:zat N ps scope) (hd:A.handled=none) (e0:Env0 P w K mg base A outer s H) (hl:vs.length=ps.length) (r:Vals vs us)
  (x:InCallC s s.heap.objs.size (bindL (envOfC qual scope s.heap.objs.size f cd).kindOf (ps.zip us) fun _=>none) (cellsFrom (s.heap.objs.size + 1) scope.names []) (bindC (envOfC qual scope s.heap.objs.size f cd).kindOf (ps.zip us) fun _=>none) s1) :
  Inv (cxOf CX P w K mg base N qual scope f cd A outer s H E) [] (start N vs) H s1:=by
 have hpl:ps.length ≤ N.length:=by have:=congrArg List.length S.pre;rw [List.length_take] at this;omega
 obtain ⟨h1,tk,rfl,hk⟩:=x.done
 have noA:∀ b:Addr,b ∉ (cxOf CX P w K mg base N qual scope f cd A outer s H E).ex:=fun b z=>absurd (show b ∈ ([] : List Addr) from z) (by simp)
 refine ⟨⟨e0.mod,S.kind,rfl,rfl,Nat.le_refl _,fun y z c h1 h2=>?_,fun y hy=>?_,fun y c _ h=>?_,fun _=>hd,Around.frames_deeper e0.frames, .inr ⟨rfl,rfl⟩,fun b z=>absurd z (noA b),e0.bs,e0.bsz,fun b _ _=>noA b,fun b z=>absurd z (noA b),e0.funs,e0.frf⟩,
  rfl,e0.bare,Un.kept hk,⟨_,x.toInCall.ns,fun i y v h1 h2 h3=>?_⟩,fun y c h=>⟨_,x.cell y c h⟩,e0.hok.fresh (Nat.le_refl _),fun y c h=>?_,fun p hp=>absurd (show p ∈ ([] : List (Addr × Obj)) from hp) (by simp),e0.hok.kept hk,?_⟩
 ·exact name_of_addr x.apart (PySem.mem_of_lookup h1) (PySem.mem_of_lookup h2)
 ·have hy:scope.names.lookup y=some .cell∨scope.names.lookup y=some .free:=hy
  rcases hy with hy | hy
  ·exact ziZ hy
  ·exact absurd rfl (S.nofree _ (PySem.mem_of_lookup hy))
 ·exact Nat.le_of_lt (x.above y c (PySem.mem_of_lookup h))
 ·have hi:i < vs.length:=by
   unfold start at h2
   by_cases hi:i < vs.length
   ·exact hi
   ·rw [List.getElem?_append_right (by simpa using hi)] at h2
    rw [List.getElem?_replicate] at h2
    split at h2 <;> cases h2
  have ha:vs[i]? = some v:=by
   unfold start at h2
   rw [List.getElem?_append_left (by simpa using hi),List.getElem?_map] at h2
   cases e:vs[i]? with
   | none=>rw [e] at h2;cases h2
   | some a=>rw [e] at h2;cases h2;rfl
  obtain ⟨u,hu,rv⟩:=r.get ha
  have hp:ps[i]? = some y:=by
   rw [← S.pre,List.getElem?_take_of_lt (by omega)];exact h1
  have ndP:ps.Nodup:=by rw [← S.pre];exact S.nd.sublist (List.take_sublist _ _)
  refine ⟨u,rv,?_⟩
  rcases S.par y (List.mem_of_getElem? hp) with k | k
  ·exact .inl ⟨k,zhs ndP hp hu k⟩
  ·obtain ⟨c,e⟩:=ziZ (n:=s.heap.objs.size + 1) k
   refine .inr ⟨.inl k,c,e,?_⟩
   have q:=x.cell y c e
   rw [zht ndP hp hu (by show scope.names.lookup y ≠ _;rw [k];decide)] at q
   exact q
 ·exact e0.hok.fresh (Nat.le_of_lt (x.above y c (PySem.mem_of_lookup h)))
 ·unfold start
  show _=N.length
  rw [List.length_append,List.length_map,List.length_replicate]
  omega
theorem zlU {CX:CXT} {P:Program} {w:World} {K:PySem.W.Frag} {mg:Str→Option Value} {base:Heap} {k:Nat} {f:Addr} {name qual:Str} {params:Arguments} {body:List Stmt} {scope:Scope} {dV kV doc pm cdv ct oc:Value} {an od:Option Addr}
  {osl:Array (Option Value)} {N ps:List Str} {sp:Sp} (lk:K.lookup f=some ⟨oc,od, .func (PySem.W.fnOf name qual params body scope dV kV doc pm an cdv ct),osl⟩) (hcd:PySem.W.codeIn K cdv qual=true) (S:zat N ps scope)
  (len:∀ vs H Q E,sp vs H Q E→vs.length=ps.length)
  (hbody:∀ (A:Around) (outer:List Env) (s:Shared) (H:Hp) (vs:List V) (Q:VK) (E:XK),Room k (A.deeper (envOfC qual scope s.heap.objs.size f cdv))→sp vs H Q E →
   ∃ t,PSs (cxOf CX P w K mg base N qual scope f cdv A outer s H E) body t∧t { nx:=fun _ H'=>Q .non H',rt:=Q } (start N vs) H) :
  FnOk P w K mg base CX (k + 1) f (PySem.W.fnOf name qual params body scope dV kV doc pm an cdv ct) ps sp:=by
 refine ⟨len,fun A outer s H args us vs Q E hr e0 hb r hsp=>?_⟩
 have hl:=len _ _ _ _ hsp
 have KX:K.In s.heap:=e0.mod.kin.keeps fun b o e=>(e0.bs b o e).1
 have lim:s.heap.NoLimit:=e0.mod.nolimit.keeps fun b o e=>(e0.bs b o e).1
 have hkind:∀ y ∈ ps.zip us,scope.names.lookup y.1=some .local∨(scope.names.lookup y.1=some .cell∧((cellsFrom (s.heap.objs.size + 1) scope.names []).lookup y.1).isSome=true):=fun ⟨n,v⟩ hy=>by
  rcases S.par n (List.of_mem_zip hy).1 with q | q
  ·exact .inl q
  ·exact .inr ⟨q,PySem.W.cellsFrom_some _ _ _ (.inl q)⟩
 refine codeAny_call_function hr.depth (KX _ _ lk) rfl S.co S.gen rfl (PySem.W.codeRec_of KX hcd) (hb _ _ _ _ ?_)
 refine wpAny_newFunctionEnv_cells S.kind hkind fun env he s1 x=>?_
 subst he
 refine ⟨lim.keeps x.toInCall.keep,codeAny_func ?_⟩
 obtain ⟨t,ht,hq⟩:=hbody A outer s H vs Q E (hr.deeper _) hsp
 have I:Inv (cxOf CX P w K mg base N qual scope f cdv A outer s H E) [] (start N vs) H s1:=zd2 S hr.hd e0 hl r x
 refine wpAny_mono (ht [] s1 (start N vs) H _ I hq) (fun fl s' hs=>?_) fun e s' hs=>hs
 have fin:∀ {σ':St} {H':Hp} {v:V} {u:Value},Inv (cxOf CX P w K mg base N qual scope f cdv A outer s H E) [] σ' H' s'→RelV v u→Q v H'→CE outer P w H s Q u s' :=
  fun {σ' H' v u} J rv q=>⟨v,H',J.os,J.bare,J.base,J.hok,rv,q⟩
 cases fl with
 | ret u =>
  obtain ⟨v,σ',H',J,rv,q⟩:=hs
  exact fin J rv q
 | next =>
  obtain ⟨σ',H',J,q⟩:=hs
  exact fin (v:=V.non) (u:=Value.none) J rfl q
 | brk =>
  obtain ⟨_,_,_,q⟩:=hs
  exact False.elim q
 | cont =>
  obtain ⟨_,_,_,q⟩:=hs
  exact False.elim q
end L2
namespace L2
open PySem PySem.Spec PyProof.Rows
section
variable {X:Cx} {x:Str} {p pos:Pos} {e:Expr} {es:List Expr} {t:TA} {id T:String} {r:List V→Hp→VK→Prop}
def tCB (r:List V→Hp→VK→Prop) (t:TA):TE:=fun σ H Q=>t σ H fun vs H1=>r vs H1 Q
theorem zmc (hc:zdc X (.builtin id) r) (hg:Gl X x) (hm:X.mg x=none) (hv:bootBuiltins x=some (.builtin id)) (ha:PA X (e :: es) t) (hn:x ≠ "__name__":=by decide) (hdb:(x == ("__debug__" : Str))=false:=by decide)
  (he:starEach (e :: es) X.env=(false,eval e X.env) :: starEach es X.env:=by rfl) (hpl:(backTo pos (starEach es X.env)).any (·.1)=false:=by rfl):PE X (.Call (.Name x p) (e :: es) [] pos) (tCB r t):=by
 intro pins s σ H Q I h
 refine wpAny_Call_Name_kw (zgj I hg hm hv ?_ hn hdb)
 exact PyProof.Rows.callWith_builtin1 (thn (ha pos pins s σ H _ I h) fun us s1 ⟨vs,H1,I1,r1,q1⟩=>hc pins s1 σ H1 vs us Q I1 r1 q1) he hpl
theorem zk7 (hc:zdc X (.type T) r) (hg:Gl X x) (hm:X.mg x=none) (hv:bootBuiltins x=some (.type T)) (ha:PA X (e :: es) t) (hn:x ≠ "__name__":=by decide) (hdb:(x == ("__debug__" : Str))=false:=by decide)
  (he:starEach (e :: es) X.env=(false,eval e X.env) :: starEach es X.env:=by rfl) (hpl:(backTo pos (starEach es X.env)).any (·.1)=false:=by rfl):PE X (.Call (.Name x p) (e :: es) [] pos) (tCB r t):=by
 intro pins s σ H Q I h
 refine wpAny_Call_Name_kw (zgj I hg hm hv ?_ hn hdb)
 exact PyProof.Rows.callWith_type1 (thn (ha pos pins s σ H _ I h) fun us s1 ⟨vs,H1,I1,r1,q1⟩=>hc pins s1 σ H1 vs us Q I1 r1 q1) he hpl
end
end L2
namespace HT
open PySem PyProof.Rows
section
open PySem.SeqAt
open PySem.AutoSeq1 (wpAny_loadPart')
open PySem.MeetsSeq PySem.MeetsSeq2 PySem.MeetsSeq3
end
section
variable {prog:Program} {w:World} {A:Around} {E:Value→Shared→Prop} {s:Shared}
theorem znA {t b:Addr} {vs ws:List Value} {Q:Value→Shared→Prop} (ht:IsTup s.heap t vs.toArray) (hb:IsTup s.heap b ws.toArray) (hv:vs ≠ [])
  (h1:ws=[]→Q (.ref t) s) (h2:ws ≠ []→Q (.ref s.heap.objs.size) { s with heap:=s.heap.push { cls := .type "tuple",data := .seq (vs ++ ws).toArray } })
  (hsz:vs.length + ws.length ≤ sizeLine):wpAny (model prog w) A (binaryOp .Add (.ref t) (.ref b)) Q E s:=by
 obtain ⟨⟨cls,dd,data,sl⟩,ho,hc,n,hd⟩:=id ht
 obtain ⟨⟨cls2,dd2,data2,sl2⟩,ho2,hc2,n2,hd2⟩:=id hb
 simp only at hc hd hc2 hd2
 subst hc hd hc2 hd2
 have e:vs.toArray ++ ws.toArray=(vs ++ ws).toArray:=by simp
 by_cases hw:ws=[]
 ·exact concat_meets ⟨_,ho,rfl⟩ ⟨_,ho2,rfl⟩ noFill_tuple_add seq_tuple_add PySem.F.slot_tuple_add PySem.F.entry_tuple_add (PySem.F.args_tuple_add_2 _ _)
   (tuple_addW1 t b vs.toArray ws.toArray n n2 dd dd2 sl sl2 (by simpa using hv) (by simp [hw])) ⟨ho,ho2,h1 hw⟩
 ·refine concat_meets ⟨_,ho,rfl⟩ ⟨_,ho2,rfl⟩ noFill_tuple_add seq_tuple_add PySem.F.slot_tuple_add PySem.F.entry_tuple_add (PySem.F.args_tuple_add_2 _ _)
   (tuple_addW2 t b vs.toArray ws.toArray n n2 dd dd2 sl sl2 (by simpa using hv) (by simpa using hw) (by rw [List.size_toArray,List.size_toArray];exact hsz)) ⟨ho,ho2,?_⟩
  rw [e]
  exact h2 hw
def sIx (n d:Nat):Option Int→Nat
 | none=>d
 | some v=>if v < 0 then (v + (n:Int)).toNat else min v.toNat n
theorem zi5 (n d:Nat):sIx n d none=d:=rfl
theorem zkg (n d k:Nat):sIx n d (some (k:Int))=min k n:=by
 show (if (k:Int) < 0 then ((k:Int) + (n:Int)).toNat else min (k:Int).toNat n)=min k n
 rw [if_neg (by omega),Int.toNat_natCast]
theorem zoG (n d:Nat) (hd:d ≤ n) (o:Option Int):sIx n d o ≤ n:=by
 cases o with
 | none=>exact hd
 | some v =>
  show (if v < 0 then (v + (n:Int)).toNat else min v.toNat n) ≤ n
  by_cases hv:v < 0
  ·rw [if_pos hv];omega
  ·rw [if_neg hv];exact Nat.min_le_right _ _
theorem zkh (v:Int) (n d:Nat):(if v < 0 then max (v + (n:Int)) 0 else min v (n:Int))=((sIx n d (some v):Nat):Int):=by
 show (if v < 0 then max (v + (n:Int)) 0 else min v (n:Int))=(((if v < 0 then (v + (n:Int)).toNat else min v.toNat n):Nat):Int)
 by_cases hv:v < 0
 ·simp only [if_pos hv];omega
 ·simp only [if_neg hv];omega
theorem zjl (lo hi:Option Int) (n:Nat):Builtin.Slice.sliceAdjust lo hi 1 (n:Int)=(((sIx n 0 lo:Nat):Int),((sIx n n hi:Nat):Int)):=by
 have h1:¬ ((1:Int) < 0):=by omega
 unfold Builtin.Slice.sliceAdjust
 simp only [h1,if_false]
 refine Prod.ext ?_ ?_
 ·cases lo with
  | none=>rfl
  | some v=>exact zkh v n 0
 ·cases hi with
  | none=>rfl
  | some v=>exact zkh v n n
theorem zjp (i j:Nat):Builtin.Slice.slicePlaces (i:Int) (j:Int) 1=j - i:=by
 unfold Builtin.Slice.slicePlaces
 have h1:(1:Int) > 0:=by omega
 simp only [h1,if_true,Int.ediv_one]
 split <;> omega
theorem zge {v:Value} {o:Option Int} {Q:Option Int→Shared→Prop} (p:IsPart v o) (h:Q o s):wpAny (model prog w) A (Builtin.Slice.slicePartIndex v) Q E s:=by
 cases p with
 | none=>exact slicePart_none h
 | int i t=>exact slicePart_int h
theorem zeR {sl:Addr} {vl vu:Value} {lo hi:Option Int} {n:Nat} {Q:Int × Int × Nat→Shared→Prop} (hs:s.heap.IsSliceOf sl vl vu .none) (pl:IsPart vl lo) (pu:IsPart vu hi)
  (h:Q (((sIx n 0 lo:Nat):Int),1,sIx n n hi - sIx n 0 lo) s):wpAny (model prog w) A (Builtin.Slice.sliceApplied (.ref sl) (pure (n:Int))) Q E s:=by
 obtain ⟨os,hos,hcs,hds⟩:=id hs
 unfold Builtin.Slice.sliceApplied Builtin.Slice.sliceFields
 refine wpAny_bind (wpAny_bind (wpAny_field hos hds (x:=vl) rfl (wpAny_bind (wpAny_field hos hds (x:=vu) rfl (wpAny_bind (wpAny_field hos hds (x := .none) rfl (wpAny_pure ?_)))))))
 refine wpAny_bind (slicePart_none ?_)
 show wpAny _ _ (if ((1:Int) == 0)=true then _ else _) _ _ s
 rw [if_neg (by decide)]
 refine wpAny_bind (zge pl (wpAny_bind (zge pu (wpAny_bind (wpAny_pure ?_)))))
 show wpAny _ _ (match Builtin.Slice.sliceAdjust lo hi 1 (n:Int) with | (lo,hi)=>pure (lo,(1:Int),Builtin.Slice.slicePlaces lo hi 1)) _ _ s
 rw [zjl lo hi n]
 show wpAny _ _ (pure (((sIx n 0 lo:Nat):Int),(1:Int),Builtin.Slice.slicePlaces ((sIx n 0 lo:Nat):Int) ((sIx n n hi:Nat):Int) 1)) _ _ s
 rw [zjp]
 exact wpAny_pure h
theorem zmp (xs:Array Value) (i k:Nat):((List.range k).filterMap fun (m:Nat)=>xs[((i:Int) + (m:Int) * 1).toNat]?).toArray=((xs.toList.drop i).take k).toArray:=by
 have e:(fun (m:Nat)=>xs[((i:Int) + (m:Int) * 1).toNat]?)=fun m=>xs[i + m]?:=by
  funext m
  have:((i:Int) + (m:Int) * 1).toNat=i + m:=by omega
  rw [this]
 rw [e]
 have:=pick_run xs i k
 rw [List.filterMap_map] at this
 have e2:((fun x=>xs[x]?) ∘ fun x=>i + x)=fun m=>xs[i + m]?:=rfl
 rw [e2] at this
 rw [this]
theorem zeo {t sl:Addr} {items:Array Value} {vl vu:Value} {lo hi:Option Int} {Q:Value→Shared→Prop} (ht:IsTup s.heap t items) (hs:s.heap.IsSliceOf sl vl vu .none) (pl:IsPart vl lo) (pu:IsPart vu hi)
  (hw:¬ (sIx items.size 0 lo=0∧sIx items.size items.size hi=items.size))
  (h:Q (.ref s.heap.objs.size) { s with heap:=s.heap.push { cls := .type "tuple",data := .seq ((items.toList.drop (sIx items.size 0 lo)).take (sIx items.size items.size hi - sIx items.size 0 lo)).toArray } })
  (hsz:items.size ≤ sizeLine):wpAny (model prog w) A (getItem (.ref t) (.ref sl)) Q E s:=by
 have htake:sizeOk (.seq ((items.toList.drop (sIx items.size 0 lo)).take (sIx items.size items.size hi - sIx items.size 0 lo)).toArray):=by
  show ((items.toList.drop (sIx items.size 0 lo)).take (sIx items.size items.size hi - sIx items.size 0 lo)).toArray.size ≤ sizeLine
  rw [List.size_toArray,List.length_take,List.length_drop,Array.length_toList]
  omega
 have hj:sIx items.size items.size hi ≤ items.size:=zoG _ _ (Nat.le_refl _) hi
 obtain ⟨os,hos,hcs,hds⟩:=id hs
 have hTs:s.TypeIs (.ref sl) "slice":=⟨os,hos,hcs⟩
 unfold getItem
 try with_reducible refine wpAny_holding ?_
 first | refine wpAny_bind (wpAny_pure ?_) | skip
 refine wpAny_bind (wpAny_sequenceKey ht.typeIs (by decide) ?_)
 refine wpAny_bind (wpAny_callSpecial?_slot (name:=Str.ofString "__getitem__") ht.typeIs PyProof.Rows.slot_tuple_getitem
  (wpAny_call_entry PyProof.Rows.slot_tuple_getitem ht.typeIs entry_tuple_getitem ?_ (args_tuple_getitem _ _)))
 show wpAny _ _ (Builtin.Tuple.tupleItemsOf (.ref t) >>= _) _ _ s
 refine wpAny_bind (tupleItemsOf_ ht ?_)
 refine wpAny_bind (wpAny_typeOf hTs ?_)
 rw [if_pos (by decide)]
 refine wpAny_bind (zeR hs pl pu ?_)
 have hno:¬ ((((sIx items.size 0 lo:Nat):Int) == 0 && (1:Int) == 1 && (sIx items.size items.size hi - sIx items.size 0 lo) == items.size)=true):=by
  intro q
  rw [Bool.and_eq_true,Bool.and_eq_true] at q
  have q1:((sIx items.size 0 lo:Nat):Int)=0:=eq_of_beq q.1.1
  have q2:sIx items.size items.size hi - sIx items.size 0 lo=items.size:=eq_of_beq q.2
  exact hw ⟨by omega,by omega⟩
 show wpAny _ _ (if (((sIx items.size 0 lo:Nat):Int) == 0 && (1:Int) == 1 && (sIx items.size items.size hi - sIx items.size 0 lo) == items.size)=true then _ else _) _ _ s
 rw [if_neg hno,zmp]
 first
  | exact wpAny_bind (m:=Builtin.Tuple.tupleExact _) (wpAny_newObj_type (wpAny_pure ⟨_,rfl,wpAny_pure h⟩) htake)
  | exact wpAny_bind (m:=Builtin.Tuple.tupleExact _) (wpAny_newObj_type (wpAny_bind (wpAny_pure (wpAny_pure ⟨_,rfl,wpAny_pure h⟩))) htake)
  | exact wpAny_bind (wpAny_bind (m:=Builtin.Tuple.tupleExact _) (wpAny_newObj_type (wpAny_pure (wpAny_pure ⟨_,rfl,wpAny_pure h⟩)) htake))
  | exact wpAny_bind (wpAny_bind (m:=Builtin.Tuple.tupleExact _) (wpAny_newObj_type (wpAny_pure ⟨_,rfl,wpAny_pure h⟩) htake))
end
end HT
namespace L2
open PySem PySem.Spec PyProof.Rows
abbrev TO:=St→Hp→(Option Int→Hp→Prop)→Prop
def PO (X:Cx) (e:Option Expr) (t:TO):Prop :=
 ∀ (pins:List (Addr × Obj)) (s:Shared) (σ:St) (H:Hp) (Q:Option Int→Hp→Prop),Inv X pins σ H s→t σ H Q →
  wpAny (model X.prog X.w) X.A (evalPart e X.env) (fun u s'=>∃ o H',Inv X pins σ H' s'∧IsPart u o∧Q o H') X.xe s
def zn6:TO:=fun _ H Q=>Q none H
def zqt (t:TE):TO:=fun σ H Q=>t σ H fun x H1=>∃ i,x = .int i∧Q (some i) H1
section
variable {X:Cx} {e:Expr} {te:TE} {lo hi:Option Expr} {tl th:TO} {pos p2:Pos}
theorem znr:PO X none zn6:=by
 intro pins s σ H Q I h
 rw [evalPart_none]
 exact wpAny_pure ⟨none,H,I, .none,h⟩
theorem zm4 (h:PE X e te):PO X (some e) (zqt te):=by
 intro pins s σ H Q I hw
 rw [evalPart_some]
 refine thn (h pins s σ H _ I hw) fun u s1 ⟨x,H1,I1,r1,q1⟩=>?_
 obtain ⟨i,rfl,q⟩:=q1
 obtain ⟨t,rfl⟩:=r1
 exact ⟨some i,H1,I1, .int i t,q⟩
def SlR (X:Cx) (r:V→Option Int→Option Int→Hp→VK→Prop):Prop :=
 ∀ (pins:List (Addr × Obj)) (s:Shared) (σ:St) (H:Hp) (x:V) (v vl vu:Value) (lo hi:Option Int) (sl:Addr) (Q:VK),Inv X pins σ H s→RelV x v→s.heap.IsSliceOf sl vl vu .none→IsPart vl lo→IsPart vu hi→r x lo hi H Q →
  ∃ T id,typeLookup (.type T) "__getitem__" = pure (some (.builtin id))∧s.TypeIs v T∧wpAny (model X.prog X.w) X.A (getItem v (.ref sl)) (EP X pins σ Q) X.xe s
theorem SlR.or {r r':V→Option Int→Option Int→Hp→VK→Prop} (h:SlR X r) (h':SlR X r'):SlR X (fun x lo hi H Q=>r x lo hi H Q∨r' x lo hi H Q):=by
 intro pins s σ H x v vl vu lo hi sl Q I rx hs pl pu q
 rcases q with q | q
 ·exact h pins s σ H x v vl vu lo hi sl Q I rx hs pl pu q
 ·exact h' pins s σ H x v vl vu lo hi sl Q I rx hs pl pu q
def tSl (r:V→Option Int→Option Int→Hp→VK→Prop) (te:TE) (tl th:TO):TE:=fun σ H Q=>te σ H fun x H1=>tl σ H1 fun l H2=>th σ H2 fun u H3=>r x l u H3 Q
theorem zl5 {r:V→Option Int→Option Int→Hp→VK→Prop} (hr:SlR X r) (he:PE X e te) (hl:PO X lo tl) (hu:PO X hi th):PE X (.Subscript e (.Slice lo hi none p2) pos) (tSl r te tl th):=by
 intro pins s σ H Q I h
 refine Subscript_ (thn (he pins s σ H _ I h) fun v s1 ⟨x,H1,I1,r1,q1⟩=>?_)
 refine wpAny_Slice (thn (hl pins s1 σ H1 _ I1 q1) fun vl s2 ⟨l,H2,I2,pl,q2⟩=>thn (hu pins s2 σ H2 _ I2 q2) fun vu s3 ⟨u,H3,I3,pu,q3⟩=>?_)
 rw [evalPart_none]
 refine wpAny_pure ?_
 have I4:Inv X pins σ H3 { s3 with heap:=s3.heap.push { cls := .type "slice",data := .fields #[vl,vu, .none] } }:=I3.kept (t':=s3.toks) fun b ob q=>Heap.get?_push_of_some _ q
 obtain ⟨T,id,hT,ht,hg⟩:=hr pins { s3 with heap:=s3.heap.push { cls := .type "slice",data := .fields #[vl,vu, .none] } } σ H3 x v vl vu l u s3.heap.objs.size Q I4 r1 (Heap.IsSliceOf.new ..) pl pu q3
 show wpAny (model X.prog X.w) X.A (subscriptTail e (.Slice lo hi none p2) v (.ref s3.heap.objs.size)) (EP X pins σ Q) X.xe { s3 with heap:=s3.heap.push { cls := .type "slice",data := .fields #[vl,vu, .none] } }
 exact tail_any (ops:=[.ref s3.heap.objs.size,v]) ht hT hg (by with_unfolding_all rfl)
def cutV (xs:List V) (lo hi:Option Int):List V:=(xs.drop (HT.sIx xs.length 0 lo)).take (HT.sIx xs.length xs.length hi - HT.sIx xs.length 0 lo)
theorem zfz (xs:List V) (lo hi:Option Int):(cutV xs lo hi).length ≤ xs.length:=by
 unfold cutV
 rw [List.length_take,List.length_drop]
 omega
def rSlT (K:PySem.W.Frag):V→Option Int→Option Int→Hp→VK→Prop:=fun x lo hi H Q=>∃ a xs,x = .ref a∧SqT K H a xs ∧
 ¬ (HT.sIx xs.length 0 lo=0∧HT.sIx xs.length xs.length hi=xs.length)∧∀ p,H p=none→Q (.ref p) (upd H p (.tup (cutV xs lo hi)))
theorem zpU:SlR X (rSlT X.K):=by
 intro pins s σ H x v vl vu lo hi sl Q I rx hs pl pu h
 obtain ⟨a,xs,rfl,hx,hw,q⟩:=h
 cases rx
 obtain ⟨its,r,ht,hz⟩:=I.tuple hx
 have hlen:its.toArray.size=xs.length:=by rw [List.size_toArray];exact r.length.symm
 refine ⟨"tuple",_,PyProof.Rows.slot_tuple_getitem.lookup,ht.typeIs,?_⟩
 refine HT.zeo ht hs pl pu (by rw [hlen];exact hw) ?_ (by rw [hlen];exact hz)
 rw [hlen]
 refine ⟨.ref s.heap.objs.size,_,I.laid (t':=s.toks) (o := .tup (cutV xs lo hi)) (fun b ob q=>Heap.get?_push_of_some _ q) (Nat.le_refl _) ?_,rfl,q _ (I.hok.fresh (Nat.le_refl _))⟩
 exact ⟨Nat.le_trans (zfz xs lo hi) hz,_,(r.drop (HT.sIx xs.length 0 lo)).take (HT.sIx xs.length xs.length hi - HT.sIx xs.length 0 lo),IsTup.new _ _⟩
def zqe (K:PySem.W.Frag):R2:=fun x y H Q=>∃ a b xs ys,x = .ref a∧y = .ref b∧SqT K H a xs∧SqT K H b ys∧xs ≠ []∧xs.length + ys.length ≤ sizeLine ∧
 (ys=[]→Q (.ref a) H)∧(ys ≠ []→∀ p,H p=none→Q (.ref p) (upd H p (.tup (xs ++ ys))))
theorem Vals.zin {xs:List V} {us:List Value} (r:Vals xs us):us=[]↔xs=[]:=by
 cases r with
 | nil=>simp
 | cons _ _=>simp
theorem znX:OpR X (binaryOp .Add) (zqe X.K):=by
 intro pins s σ H x y v u Q I rx ry h
 obtain ⟨a,b,xs,ys,rfl,rfl,ha,hb,hx,hz,q1,q2⟩:=h
 cases rx
 cases ry
 obtain ⟨its,r1,p1,_⟩:=I.tuple ha
 obtain ⟨its2,r2,p2,_⟩:=I.tuple hb
 refine HT.znA p1 p2 (fun z=>hx (r1.zin.mp z)) (fun z=>⟨.ref a,H,I,rfl,q1 (r2.zin.mp z)⟩) (fun z=>?_) (by rw [← r1.length,← r2.length];exact hz)
 refine ⟨.ref s.heap.objs.size,_,I.laid (t':=s.toks) (o := .tup (xs ++ ys)) (fun b ob q=>Heap.get?_push_of_some _ q) (Nat.le_refl _) ?_,rfl,q2 (fun w=>z (r2.zin.mpr w)) _ (I.hok.fresh (Nat.le_refl _))⟩
 exact ⟨by rw [List.length_append];exact hz,_,r1.append r2,IsTup.new _ _⟩
end
end L2
namespace L2
open PySem PySem.Spec PyProof.Rows
def ixN (n:Nat) (i:Int):Option Nat:=if 0 ≤ i then (if i < n then some i.toNat else none) else if -(n:Int) ≤ i then some (i + n).toNat else none
def atI {α:Type} (xs:List α) (i:Int):Option α:=(ixN xs.length i).bind fun j=>xs[j]?
theorem znJ {n:Nat} {i:Int} {j:Nat} (h:ixN n i=some j):seqIndex? i n=some j∧j < n∧-(n:Int) ≤ i∧i < n:=by
 unfold ixN at h
 by_cases h0:0 ≤ i
 ·rw [if_pos h0] at h
  by_cases h1:i < n
  ·rw [if_pos h1] at h
   have e:i.toNat=j:=Option.some.inj h
   exact ⟨by rw [seqIndex_of h0 h1,e],by omega,by omega,h1⟩
  ·rw [if_neg h1] at h;cases h
 ·rw [if_neg h0] at h
  by_cases h1 : -(n:Int) ≤ i
  ·rw [if_pos h1] at h
   have e:(i + n).toNat=j:=Option.some.inj h
   exact ⟨by rw [seqIndex_neg (by omega) h1,e],by omega,h1,by omega⟩
  ·rw [if_neg h1] at h;cases h
theorem zis {α:Type} {xs:List α} {i:Int} {v:α} (h:atI xs i=some v):∃ j,seqIndex? i xs.length=some j∧xs[j]? = some v∧j < xs.length∧-(xs.length:Int) ≤ i∧i < xs.length:=by
 unfold atI at h
 cases e:ixN xs.length i with
 | none=>rw [e] at h;cases h
 | some j =>
  rw [e] at h
  obtain ⟨h1,h2,h3,h4⟩:=znJ e
  exact ⟨j,h1,h,h2,h3,h4⟩
def zij (b:Expr):Prop:=∀ o i,subscripted b false o i=operate [o,i] (getItem o i)
def IxR (X:Cx) (r:R2):Prop :=
 ∀ (value slice:Expr) (pins:List (Addr × Obj)) (s:Shared) (σ:St) (H:Hp) (x y:V) (v u:Value) (Q:VK),Inv X pins σ H s→RelV x v→RelV y u→r x y H Q →
  subscripted slice false v u=operate [v,u] (getItem v u)→wpAny (model X.prog X.w) X.A (subscriptTail value slice v u) (EP X pins σ Q) X.xe s
def MtR (X:Cx) (id:String) (r:V→List V→Hp→VK→Prop):Prop :=
 ∀ (pins:List (Addr × Obj)) (s:Shared) (σ:St) (H:Hp) (x:V) (xs:List V) (v:Value) (us:List Value) (Q:VK),Inv X pins σ H s→RelV x v→Vals xs us→r x xs H Q →
  wpAny (model X.prog X.w) X.A (call (.builtin id) (v :: us)) (EP X pins σ Q) X.xe s
section
variable {X:Cx} {a b:Expr} {ta tb:TE} {pos:Pos}
theorem IxR.or {r r':R2} (h:IxR X r) (h':IxR X r'):IxR X (fun x y H Q=>r x y H Q∨r' x y H Q):=by
 intro value slice pins s σ H x y v u Q I rx ry q hs
 rcases q with q | q
 ·exact h value slice pins s σ H x y v u Q I rx ry q hs
 ·exact h' value slice pins s σ H x y v u Q I rx ry q hs
theorem MtR.or {id:String} {r r':V→List V→Hp→VK→Prop} (h:MtR X id r) (h':MtR X id r'):MtR X id (fun x xs H Q=>r x xs H Q∨r' x xs H Q):=by
 intro pins s σ H x xs v us Q I rx rs q
 rcases q with q | q
 ·exact h pins s σ H x xs v us Q I rx rs q
 ·exact h' pins s σ H x xs v us Q I rx rs q
theorem zpX {r:R2} (hr:IxR X r) (ha:PE X a ta) (hb:PE X b tb) (hs:zij b):PE X (.Subscript a b pos) (tOp r ta tb):=by
 intro pins s σ H Q I h
 exact Subscript_ (binT ha hb I h fun v u s2 x y H2 I2 rx ry q=>hr a b pins s2 σ H2 x y v u Q I2 rx ry q (hs _ _))
def rIxL (K:PySem.W.Frag):R2:=fun x y H Q=>∃ p xs i v,x = .ref p∧y = .int i∧SqL K H p xs∧atI xs i=some v∧Q v H
def rIxT (K:PySem.W.Frag):R2:=fun x y H Q=>∃ p xs i v,x = .ref p∧y = .int i∧SqT K H p xs∧atI xs i=some v∧Q v H
def rIxS:R2:=fun x y H Q=>∃ z i c,x = .str z∧y = .int i∧z.length ≤ sizeLine∧atI z.cps.toList i=some c∧Q (.str ⟨#[c]⟩) H
theorem zn8:IxR X (rIxL X.K):=by
 intro value slice pins s σ H x y v u Q I rx ry h hs
 obtain ⟨p,xs,i,z,rfl,rfl,hq,he,q⟩:=h
 cases rx
 obtain ⟨t,rfl⟩:=ry
 obtain ⟨its,r,pl,hz⟩:=I.list hq
 obtain ⟨j,h1,h2,h3,h4,h5⟩:=zis he
 obtain ⟨w,ew,rw'⟩:=r.get h2
 have hl:=r.length
 have hn:=zhl
 have fin:EP X pins σ Q w s:=⟨z,H,I,rw',q⟩
 by_cases h0:0 ≤ i
 ·have hj:i.toNat=j:=by
   rw [seqIndex_of h0 h5] at h1
   exact Option.some.inj h1
  exact item_listR pl.isList h0 (by omega) (by rw [hj];simpa using ew) fin hs
 ·have hj:(i + (its.toArray.size:Int)).toNat=j:=by
   rw [seqIndex_neg (by omega) h4] at h1
   rw [List.size_toArray,← hl]
   exact Option.some.inj h1
  exact subscriptTail_builtinR (x:=w) pl.isList.typeIs slot_list_getitem.lookup
   (wpAny_getItem_list_neg (Q:=fun r s'=>r=w∧EP X pins σ Q r s') pl.isList (by omega) (by rw [List.size_toArray] <;> omega) (by omega) (by rw [hj];simpa using ew) ⟨rfl,fin⟩) hs
theorem zpd:IxR X (rIxT X.K):=by
 intro value slice pins s σ H x y v u Q I rx ry h hs
 obtain ⟨p,xs,i,z,rfl,rfl,hq,he,q⟩:=h
 cases rx
 obtain ⟨t,rfl⟩:=ry
 obtain ⟨its,r,pl,hz⟩:=I.tuple hq
 obtain ⟨j,h1,h2,h3,h4,h5⟩:=zis he
 obtain ⟨w,ew,rw'⟩:=r.get h2
 have hl:=r.length
 have hn:=zhl
 have fin:EP X pins σ Q w s:=⟨z,H,I,rw',q⟩
 exact subscriptTail_builtinR (x:=w) pl.typeIs slot_tuple_getitem.lookup
  (getItem_tuple (j:=j) (Q:=fun r s'=>r=w∧EP X pins σ Q r s') pl (by omega) (by omega) (by rw [List.size_toArray,← hl];exact h1) (by simpa using ew) ⟨rfl,fin⟩) hs
theorem zoB:IxR X rIxS:=by
 intro value slice pins s σ H x y v u Q I rx ry h hs
 obtain ⟨z,i,c,rfl,rfl,hz,he,q⟩:=h
 obtain ⟨t,rfl⟩:=rx
 obtain ⟨t',rfl⟩:=ry
 obtain ⟨j,h1,h2,h3,h4,h5⟩:=zis he
 have hl:z.cps.toList.length=z.length:=by simp [Str.length]
 rw [hl] at h1 h4 h5
 have hn:=zhl
 exact tail_any (typeIs_str s z t) slot_str_getitem.lookup (getItem_str (c:=c) (by
  have e1:decide (i < -(2 ^ 63:Int))=false:=decide_eq_false (by omega)
  have e2:decide (i ≥ 2 ^ 63)=false:=decide_eq_false (by omega)
  rw [e1,e2,Bool.or_false]) (by rw [h1];simpa using h2) ⟨.str ⟨#[c]⟩,H,I.tok _,⟨_,rfl⟩,q⟩) hs
def rIx (K:PySem.W.Frag):R2:=fun x y H Q=>rIxL K x y H Q∨rIxT K x y H Q∨rIxS x y H Q
theorem zmJ:IxR X (rIx X.K):=zn8.or (zpd.or zoB)
theorem Inv.lst {pins:List (Addr × Obj)} {σ:St} {H:Hp} {s:Shared} {p:Addr} {xs:List V} (I:Inv X pins σ H s) (h:H p=some (.lst xs)) :
  ∃ (its:List Value) (n:Nat),Vals xs its∧s.heap.get? p=some { cls := .type "list",data := .seq its.toArray n }∧xs.length ≤ sizeLine:=by
 obtain ⟨z,its,n,r,e⟩:=I.hok p _ h
 exact ⟨its,n,r,e,z⟩
theorem zhh (lo hi:Option Int) (n:Nat):(sliceBounds lo hi none n).1=((HT.sIx n 0 lo:Nat):Int)∧(sliceBounds lo hi none n).2.1=((HT.sIx n n hi:Nat):Int)∧(sliceBounds lo hi none n).2.2=1:=by
 refine ⟨?_,?_,rfl⟩
 ·cases lo with
  | none=>simp [sliceBounds,HT.sIx]
  | some i =>
   simp only [sliceBounds,HT.sIx,Option.getD_none,show (1:Int) > 0 by decide,if_true]
   by_cases h:i < 0
   ·simp only [h,if_true] <;> omega
   ·simp only [h,if_false] <;> omega
 ·cases hi with
  | none=>simp [sliceBounds,HT.sIx]
  | some i =>
   simp only [sliceBounds,HT.sIx,Option.getD_none,show (1:Int) > 0 by decide,if_true]
   by_cases h:i < 0
   ·simp only [h,if_true] <;> omega
   ·simp only [h,if_false] <;> omega
theorem zgy (its:List Value) (lo hi:Option Int):slicePick its.toArray lo hi none=((its.drop (HT.sIx its.length 0 lo)).take (HT.sIx its.length its.length hi - HT.sIx its.length 0 lo)).toArray:=by
 obtain ⟨h1,h2,h3⟩:=zhh lo hi its.toArray.size
 unfold slicePick
 rw [h1,h2,h3]
 simp only [sliceRange_one,pick_run,List.size_toArray] <;> rfl
def rSlL (K:PySem.W.Frag):V→Option Int→Option Int→Hp→VK→Prop:=fun x lo hi H Q=>∃ a xs,x = .ref a∧SqL K H a xs∧∀ p,H p=none→Q (.ref p) (upd H p (.lst (cutV xs lo hi)))
theorem znB:SlR X (rSlL X.K):=by
 intro pins s σ H x v vl vu lo hi sl Q I rx hs pl pu h
 obtain ⟨a,xs,rfl,hx,q⟩:=h
 cases rx
 obtain ⟨its,r,ht,hz⟩:=I.list hx
 have hlen:=r.length
 refine ⟨"list",_,slot_list_getitem.lookup,ht.isList.typeIs,?_⟩
 refine wpAny_getItem_list_slice ht.isList hs pl pu .none (by simp) ?_ (by rw [List.size_toArray] <;> omega)
 rw [zgy,← hlen]
 refine ⟨.ref s.heap.objs.size,_,I.laid (t':=s.toks) (o := .lst (cutV xs lo hi)) (fun b ob q=>Heap.get?_push_of_some _ q) (Nat.le_refl _) ?_,rfl,q _ (I.hok.fresh (Nat.le_refl _))⟩
 exact ⟨Nat.le_trans (zfz xs lo hi) hz,_,0,(r.drop (HT.sIx xs.length 0 lo)).take (HT.sIx xs.length xs.length hi - HT.sIx xs.length 0 lo),Heap.get?_push_size _ rfl⟩
theorem zg4:zdc X (.builtin "len") (fun xs H Q=>∃ p ys,xs=[.ref p]∧(SqL X.K H p ys∨SqT X.K H p ys)∧Q (.int ys.length) H):=by
 intro pins s σ H xs us Q I r h
 obtain ⟨p,ys,rfl,hq,q⟩:=h
 obtain ⟨u,rfl,rx⟩:=vals1 r
 cases rx
 have hn:=zhl
 rcases hq with hq | hq
 ·obtain ⟨its,r',pl,hz⟩:=I.list hq
  have hlen:=r'.length
  exact Calls.call_len_list pl.isList (by simp only [List.size_toArray] <;> omega) ⟨.int ys.length,H,I.tok _,⟨s.toks + 1,by rw [List.size_toArray,hlen]⟩,q⟩
 ·obtain ⟨its,r',pl,hz⟩:=I.tuple hq
  have hlen:=r'.length
  exact len_tuple pl (by simp only [List.size_toArray] <;> omega) ⟨.int ys.length,H,I.tok _,⟨s.toks + 1,by rw [List.size_toArray,hlen]⟩,q⟩
theorem zho:zdc X (.builtin "len") (fun xs H Q=>∃ z,xs=[.str z]∧z.length ≤ sizeLine∧Q (.int z.length) H):=by
 intro pins s σ H xs us Q I r h
 obtain ⟨z,rfl,hz,q⟩:=h
 obtain ⟨u,rfl,t,rfl⟩:=vals1 r
 have hn:=zhl
 exact len_str (by omega) ⟨.int z.length,H,I.tok _,⟨_,rfl⟩,q⟩
theorem zdc.or {f:Value} {r r':List V→Hp→VK→Prop} (h:zdc X f r) (h':zdc X f r'):zdc X f (fun xs H Q=>r xs H Q∨r' xs H Q):=by
 intro pins s σ H xs us Q I rs q
 rcases q with q | q
 ·exact h pins s σ H xs us Q I rs q
 ·exact h' pins s σ H xs us Q I rs q
theorem zgC:zdc X (.type "tuple") (fun xs H Q=>∃ p ys,xs=[.ref p]∧((SqL X.K H p ys∧∀ l,H l=none→Q (.ref l) (upd H l (.tup ys)))∨(SqT X.K H p ys∧Q (.ref p) H))):=by
 intro pins s σ H xs us Q I r h
 obtain ⟨p,ys,rfl,h⟩:=h
 obtain ⟨u,rfl,rx⟩:=vals1 r
 cases rx
 rcases h with ⟨hq,q⟩ | ⟨hq,q⟩
 ·obtain ⟨its,r',pl,hz⟩:=I.list hq
  have hlen:=r'.length
  refine call_tuple_list pl.isList (fun h' kp=>?_) (by simp only [List.size_toArray] <;> omega)
  have I1:Inv X pins σ H { s with heap:=h' }:=I.kept (t':=s.toks) kp
  have I2:Inv X pins σ (upd H h'.objs.size (.tup ys)) { s with heap:=h'.push { cls := .type "tuple",data := .seq its.toArray } } :=
   I1.laid (t':=s.toks) (fun b o e=>Heap.get?_push_of_some _ e) (Nat.le_refl _) (show zcl X.prog X.w _ _ _ (.tup ys) from ⟨hz,its,r',IsTup.new _ _⟩)
  exact ⟨.ref h'.objs.size,_,I2,rfl,q _ (I1.hok.fresh (Nat.le_refl _))⟩
 ·obtain ⟨its,r',pl,hz⟩:=I.tuple hq
  exact call_tuple_same pl ⟨.ref p,H,I,rfl,q⟩
def tyV (K:PySem.W.Frag) (T:String) (x:V) (H:Hp):Prop:=match x with
 | .str _=>T = "str"
 | .int _=>T = "int"
 | .ref p=>(T = "list"∧∃ xs,SqL K H p xs)∨(T = "tuple"∧∃ o,K.lookup p=some o∧o.cls = .type "tuple"∧o.dict=none) ∨
   (T = "dict"∧((∃ kvs,H p=some (.dK kvs))∨∃ kvs,H p=some (.dT kvs)))∨(T = "set"∧∃ S n,H p=some (.set S n))
 | _=>False
theorem zoF {pins:List (Addr × Obj)} {σ:St} {H:Hp} {s:Shared} {T:String} {x:V} {v:Value} (I:Inv X pins σ H s) (r:RelV x v) (ty:tyV X.K T x H) :
  s.TypeIs v T∧∀ a,v = .ref a→∃ ob,s.heap.get? a=some ob∧ob.dict=none:=by
 cases x with
 | str z =>
  obtain ⟨t,rfl⟩:=r
  cases (show T = "str" from ty)
  exact ⟨typeIs_str s z t,fun _ e=>nomatch e⟩
 | int i =>
  obtain ⟨t,rfl⟩:=r
  cases (show T = "int" from ty)
  exact ⟨typeIs_int s i t,fun _ e=>nomatch e⟩
 | ref p =>
  cases r
  rcases ty with ⟨rfl,xs,hq⟩ | ⟨rfl,o,hk,hc,hd⟩ | ⟨rfl,hk⟩ | ⟨rfl,S,n,hk⟩
  ·obtain ⟨its,_,pl,_⟩:=I.list hq
   refine ⟨pl.isList.typeIs,fun a e=>?_⟩
   cases e
   obtain ⟨o,n,e,c,hd,_⟩:=pl
   exact ⟨o,e,hd⟩
  ·refine ⟨⟨o,I.kIn p o hk,hc⟩,fun a e=>?_⟩
   cases e
   exact ⟨o,I.kIn _ o hk,hd⟩
  ·have z:∃ o,s.heap.get? p=some o∧o.ExactDict:=by
    rcases hk with ⟨kvs,hk⟩ | ⟨kvs,hk⟩
    ·obtain ⟨_,_,_,_,o,_,_,e,ex,_⟩:=I.hok p _ hk
     exact ⟨o,e,ex⟩
    ·obtain ⟨_,_,_,_,o,_,_,e,ex,_⟩:=I.hok p _ hk
     exact ⟨o,e,ex⟩
   obtain ⟨o,e,ex⟩:=z
   refine ⟨⟨o,e,ex.1⟩,fun a e2=>?_⟩
   cases e2
   exact ⟨o,e,ex.2.1⟩
  ·obtain ⟨o,_,_,_,e,ex,_⟩:=I.hok p _ hk
   refine ⟨⟨o,e,ex.1⟩,fun a e2=>?_⟩
   cases e2
   exact ⟨o,e,ex.2.1⟩
 | _=>exact False.elim ty
def tBM (K:PySem.W.Frag) (T:String) (r:V→List V→Hp→VK→Prop) (to:TE) (t:TA):TE:=fun σ H Q=>to σ H fun x H1=>tyV K T x H1∧t σ H1 fun xs H2=>r x xs H2 Q
variable {o e:Expr} {es:List Expr} {to:TE} {t:TA} {name:Str} {apos cpos:Pos} {T id:String} {r:V→List V→Hp→VK→Prop}
theorem zpY (pa:PlainAttrs T) (slot:Slot T name id) (hty:typeOf (.builtin id)=pure (.type "method_descriptor")) (hm:MtR X id r) (ho:PE X o to) (ha:PA X (e :: es) t)
  (hbase:attributeBase o name X.env (eval o X.env)=eval o X.env:=by rfl)
  (hfew:((backTo cpos (starEach (e :: es) X.env)).all (fun x=>!x.1) && (backToKw cpos (keywordEach [] X.env)).all (fun x=>x.1.isSome)
   && decide ((e :: es).length + ([] : List Keyword).length + (if ([] : List Keyword).isEmpty then 0 else 1) < 30))=true:=by rfl)
  (hline:(apos.endLine == cpos.line)=true:=by rfl) (hs:starEach (e :: es) X.env=(false,eval e X.env) :: starEach es X.env:=by rfl) (hplain:(backTo cpos (starEach es X.env)).any (·.1)=false:=by rfl) :
  PE X (.Call (.Attribute o name apos) (e :: es) [] cpos) (tBM X.K T r to t):=by
 intro pins s σ H Q I h
 refine wpAny_Call_method_late hbase hfew hline rfl (thn (ho pins s σ H _ I h) fun v s1 ⟨x,H1,I1,r1,ty,q1⟩=>?_)
 obtain ⟨h1,h2⟩:=zoF I1 r1 ty
 refine ⟨T,id,pa,slot,hty,h1,h2,?_⟩
 have hA:=ha cpos pins s1 σ H1 _ I1 q1
 rw [hs] at hA ⊢
 refine Calls.callWith_builtin (by show (false || (backTo cpos (starEach es X.env)).any (·.1))=false;rw [hplain] <;> rfl) (Calls.evalArgs_plain ?_)
 exact thn hA fun us s2 ⟨vs,H2,I2,r2,q2⟩=>hm pins s2 σ H2 x vs v us Q I2 r1 r2 q2
end
end L2
namespace L2
open PySem PySem.Spec PyProof.Rows
def MtM (X:Cx) (id:String) (r:V→List V→Hp→VK→Prop):Prop :=
 ∀ (pins:List (Addr × Obj)) (s:Shared) (σ:St) (H:Hp) (x:V) (xs:List V) (v:Value) (us:List Value) (Q:VK),Inv X pins σ H s→RelV x v→Vals xs us→r x xs H Q →
  wpAny (model X.prog X.w) X.A (call (.builtin id) (v :: us)) (EP X pins σ Q) X.xe s
theorem Vals.one:∀ {x:V} {us:List Value},Vals [x] us→∃ u,us=[u]∧RelV x u
 | _,_, .cons r .nil=>⟨_,rfl,r⟩
theorem Vals.two:∀ {x y:V} {us:List Value},Vals [x,y] us→∃ u v,us=[u,v]∧RelV x u∧RelV y v
 | _,_,_, .cons r (.cons q .nil)=>⟨_,_,rfl,r,q⟩
theorem Vals.zero:∀ {us:List Value},Vals [] us→us=[]
 | _, .nil=>rfl
section
variable {X:Cx} {pins:List (Addr × Obj)} {σ:St} {H:Hp} {s:Shared} {l b:Addr} {xs ys zs:List V}
theorem Inv.lset {its its':List Value} {n:Nat} {f:Array Value→Array Value} {t':Nat} (I:Inv X pins σ H s) (hH:H l=some (.lst xs))
  (e:s.heap.get? l=some { cls := .type "list",data := .seq its.toArray n }) (hf:f its.toArray=its'.toArray) (hv:Vals ys its') (hz:ys.length ≤ sizeLine) :
  Inv X pins σ (upd H l (.lst ys)) { s with heap:=s.heap.update l (Obj.mapSeq f),toks:=t' }:=by
 have q:=PySem.IsL.update e f
 rw [hf] at q
 refine I.write (x:=l) (e:=l) (by rw [hH];exact trivial) (.inl rfl) (fun b' u hb hu=>(Heap.get?_update_other s.heap (Obj.mapSeq f) (Ne.symm hb)).trans hu) ⟨_,q⟩ ?_
 exact ⟨hz,its',_,hv,q⟩
theorem Inv.lnew {its:List Value} {t':Nat} (I:Inv X pins σ H s) (hv:Vals ys its) (hz:ys.length ≤ sizeLine) :
  Inv X pins σ (upd H s.heap.objs.size (.lst ys)) { s with heap:=s.heap.push { cls := .type "list",data := .seq its.toArray },toks:=t' } :=
 I.laid (fun _ _ q=>Heap.get?_push_of_some _ q) (Nat.le_refl _) ⟨hz,its,0,hv,Heap.get?_push_size _ rfl⟩
theorem Inv.fresh (I:Inv X pins σ H s):H s.heap.objs.size=none:=I.hok.fresh (Nat.le_refl _)
theorem Inv.lstM (I:Inv X pins σ H s) (hH:H l=some (.lst xs)):xs.length ≤ sizeLine∧∃ (its:List Value) (n:Nat),Vals xs its∧xs.length=its.length∧s.heap.get? l=some { cls := .type "list",data := .seq its.toArray n }:=by
 obtain ⟨z,its,n,r,e⟩:=I.hok l _ hH
 exact ⟨z,its,n,r,r.length,e⟩
end
section
variable {X:Cx}
def zj3:V→List V→Hp→VK→Prop:=fun x vs H Q=>∃ l xs y,x = .ref l∧vs=[y]∧H l=some (.lst xs)∧xs.length < sizeLine∧Q .non (upd H l (.lst (xs ++ [y])))
theorem zhv:MtM X "list.append" zj3:=by
 intro pins s σ H x vs v us Q I rx rv h
 obtain ⟨l,xs,y,rfl,rfl,hH,hz,q⟩:=h
 cases rx
 obtain ⟨u,rfl,ru⟩:=rv.one
 obtain ⟨z,its,n,r,hl,e⟩:=I.lstM hH
 refine call_meets F.slot_list_append ⟨_,e,rfl⟩ F.entry_list_append (F.args_list_append_2 _ _) (PySem.list_append l its.toArray n u (by rw [List.size_toArray];omega)) ⟨e,?_⟩
 refine ⟨.non,_,I.lset (its':=its ++ [u]) hH e (by simp) (r.append (.cons ru .nil)) ?_,rfl,q⟩
 rw [List.length_append,List.length_singleton]
 omega
def rCat:R2:=fun x y H Q=>∃ l b xs zs,x = .ref l∧y = .ref b∧H l=some (.lst xs)∧H b=some (.lst zs)∧xs.length + zs.length ≤ sizeLine∧∀ p,H p=none→Q (.ref p) (upd H p (.lst (xs ++ zs)))
theorem zpR:OpR X (binaryOp .Add) rCat:=by
 intro pins s σ H x y v u Q I rx ry h
 obtain ⟨l,b,xs,zs,rfl,rfl,hH,hB,hz,q⟩:=h
 cases rx
 cases ry
 obtain ⟨z,its,n,r,hl,e⟩:=I.lstM hH
 obtain ⟨z2,its2,n2,r2,hl2,e2⟩:=I.lstM hB
 refine PySem.P.add_list e e2 ?_ (by rw [List.size_toArray,List.size_toArray];omega)
 have ea:its.toArray ++ its2.toArray=(its ++ its2).toArray:=by simp
 rw [ea]
 exact ⟨.ref _,_,I.lnew (t':=s.toks) (r.append r2) (by rw [List.length_append];omega),rfl,q _ I.fresh⟩
end
section
variable {prog:Program} {w:World} {A:Around} {E:Value→Shared→Prop} {s:Shared}
end
section
variable {X:Cx}
end
end L2
namespace L2
open PySem PySem.Spec PyProof.Rows
section
variable {κ:Type} [DecidableEq κ]
def valV (kvs:List (κ × V)) (k:κ):Option V:=(kvs.find? fun kv=>decide (kv.1=k)).map (·.2)
def putK (kvs:List (κ × V)) (k:κ) (v:V):List (κ × V) :=
 if (kvs.any fun kv=>decide (kv.1=k))=true then kvs.map (fun kv=>if kv.1=k then (kv.1,v) else kv) else kvs ++ [(k,v)]
theorem zjh {p:κ × V} {r:List (κ × V)} {k:κ} (e:p.1=k):valV (p :: r) k=some p.2:=by simp [valV,List.find?_cons,e]
theorem zjk {p:κ × V} {r:List (κ × V)} {k:κ} (e:¬ p.1=k):valV (p :: r) k=valV r k:=by simp [valV,List.find?_cons,e]
theorem RelO.getD {o:Option V} {u:Option Value} {d:V} {d':Value} (r:RelO o u) (rd:RelV d d'):RelV (o.getD d) (u.getD d'):=by
 cases o with
 | none=>cases u with
  | none=>exact rd
  | some _=>exact (show False from r).elim
 | some _=>cases u with
  | none=>exact (show False from r).elim
  | some _=>exact r
theorem KV.val {kvs:List (κ × V)} {vs:List (κ × Value)} (r:KV kvs vs) (k:κ):RelO (valV kvs k) (valueAt vs k):=by
 unfold KV at r
 induction r with
 | nil=>exact True.intro
 | @cons p q ps qs h t ih =>
  obtain ⟨h1,h2⟩:=h
  by_cases e:p.1=k
  ·have e':q.1=k:=h1.symm.trans e
   have b:valueAt (q :: qs) k=some q.2:=by simp [valueAt,List.find?_cons,e']
   rw [zjh e,b];exact h2
  ·have e':¬ q.1=k:=fun z=>e (h1.trans z)
   have b:valueAt (q :: qs) k=valueAt qs k:=by simp [valueAt,List.find?_cons,e']
   rw [zjk e,b];exact ih
theorem KV.any {kvs:List (κ × V)} {vs:List (κ × Value)} (r:KV kvs vs) (k:κ):(kvs.any fun kv=>decide (kv.1=k))=vs.any fun kv=>decide (kv.1=k):=by
 unfold KV at r
 induction r with
 | nil=>rfl
 | cons h t ih=>rw [List.any_cons,List.any_cons,ih,h.1]
theorem KV.keys {kvs:List (κ × V)} {vs:List (κ × Value)} (r:KV kvs vs):kvs.map (·.1)=vs.map (·.1):=by
 unfold KV at r
 induction r with
 | nil=>rfl
 | cons h t ih=>rw [List.map_cons,List.map_cons,ih,h.1]
theorem KV.length {kvs:List (κ × V)} {vs:List (κ × Value)} (r:KV kvs vs):kvs.length=vs.length:=Paired.length r
end
abbrev KT (H:Hp):List (List Key × V)→List (List Key × Addr × Value)→Prop:=Paired fun p q=>p.1=q.1∧H q.2.1=some (.tup (p.1.map kV))∧RelV p.2 q.2.2
theorem KT.val {H:Hp} {kvs:List (List Key × V)} {xs:List (List Key × Addr × Value)} (r:KT H kvs xs) (k:List Key):RelO (valV kvs k) ((atKey xs k).map (·.2)):=by
 induction r with
 | nil=>exact True.intro
 | @cons p q ps qs h t ih =>
  obtain ⟨h1,_,h2⟩:=h
  by_cases e:p.1=k
  ·have e':q.1=k:=h1.symm.trans e
   have b:atKey (q :: qs) k=some q.2:=by simp [atKey,List.find?_cons,e']
   rw [zjh e,b];exact h2
  ·have e':¬ q.1=k:=fun z=>e (h1.trans z)
   have b:atKey (q :: qs) k=atKey qs k:=by simp [atKey,List.find?_cons,e']
   rw [zjk e,b];exact ih
theorem KT.keeps {H H':Hp} {kvs:List (List Key × V)} {xs:List (List Key × Addr × Value)} (r:KT H kvs xs) (ht:∀ b ys,H b=some (.tup ys)→H' b=some (.tup ys)):KT H' kvs xs :=
 Paired.mapP r fun _ _ z=>⟨z.1,ht _ _ z.2.1,z.2.2⟩
section
variable {P:Program} {w:World} {H:Hp} {h:Heap} {a:Addr}
end
def DGet (H:Hp) (a:Addr) (y:V) (r:Option V):Prop :=
 (∃ kvs k,Rd H a (.dK kvs)∧y=kV k∧r=valV kvs k)∨∃ kvs k b,Rd H a (.dT kvs)∧y = .ref b∧H b=some (.tup (k.map kV))∧r=valV kvs k
def DPut (H:Hp) (a:Addr) (y v:V) (H':Hp):Prop :=
 (∃ kvs k,H a=some (.dK kvs)∧y=kV k∧kvs.length < sizeLine∧H'=upd H a (.dK (putK kvs k v))) ∨
 ∃ kvs k b,H a=some (.dT kvs)∧y = .ref b∧H b=some (.tup (k.map kV))∧kvs.length < sizeLine∧H'=upd H a (.dT (putK kvs k v))
theorem DGet.k {H:Hp} {a:Addr} {kvs:List (Key × V)} {k:Key} (e:H a=some (.dK kvs)):DGet H a (kV k) (valV kvs k) := .inl ⟨kvs,k, .inl e,rfl,rfl⟩
theorem DGet.t {H:Hp} {a b:Addr} {kvs:List (List Key × V)} {k:List Key} (e:H a=some (.dT kvs)) (eb:H b=some (.tup (k.map kV))):DGet H a (.ref b) (valV kvs k) := .inr ⟨kvs,k,b, .inl e,rfl,eb,rfl⟩
theorem DPut.k {H:Hp} {a:Addr} {kvs:List (Key × V)} {k:Key} {v:V} (e:H a=some (.dK kvs)) (hl:kvs.length < sizeLine):DPut H a (kV k) v (upd H a (.dK (putK kvs k v))) := .inl ⟨kvs,k,e,rfl,hl,rfl⟩
theorem DPut.t {H:Hp} {a b:Addr} {kvs:List (List Key × V)} {k:List Key} {v:V} (e:H a=some (.dT kvs)) (eb:H b=some (.tup (k.map kV))) (hl:kvs.length < sizeLine) :
  DPut H a (.ref b) v (upd H a (.dT (putK kvs k v))) := .inr ⟨kvs,k,b,e,rfl,eb,hl,rfl⟩
section
variable {X:Cx} {pins:List (Addr × Obj)} {σ:St} {H:Hp} {s:Shared} {a:Addr} {y v:V} {u r:Value} {o:Option V} {A:Around} {E:Value→Shared→Prop}
end
section
variable {X:Cx} {pins:List (Addr × Obj)} {σ:St} {H:Hp} {s:Shared} {a:Addr} {kvs:List (Key × V)} {k:Key} {u:Value} {A:Around} {E:Value→Shared→Prop}
end
section
variable {X:Cx} {o i e value:Expr} {pos pos' tpos:Pos} {td ty tv:TE}
end
section
variable {X:Cx} {pos:Pos}
end
structure M1 (X:Cx) (o:Expr) (m:Str) (apos:Pos) (e:Expr) (cpos:Pos):Prop where
 base:attributeBase o m X.env (eval o X.env)=eval o X.env
 few:((backTo cpos (starEach [e] X.env)).all (fun x=>!x.1) && (backToKw cpos (keywordEach [] X.env)).all (fun x=>x.1.isSome)
  && decide (([e] : List Expr).length + ([] : List Keyword).length + (if ([] : List Keyword).isEmpty then 0 else 1) < 30))=true
 line:(apos.endLine == cpos.line)=true
 trees:backTo cpos (starEach [e] X.env)=[(false,eval e X.env)]
structure M2 (X:Cx) (o:Expr) (m:Str) (apos:Pos) (e f:Expr) (cpos:Pos):Prop where
 base:attributeBase o m X.env (eval o X.env)=eval o X.env
 few:((backTo cpos (starEach [e,f] X.env)).all (fun x=>!x.1) && (backToKw cpos (keywordEach [] X.env)).all (fun x=>x.1.isSome)
  && decide (([e,f] : List Expr).length + ([] : List Keyword).length + (if ([] : List Keyword).isEmpty then 0 else 1) < 30))=true
 line:(apos.endLine == cpos.line)=true
 trees:backTo cpos (starEach [e,f] X.env)=[(false,eval e X.env),(false,eval f X.env)]
section
variable {X:Cx} {pins:List (Addr × Obj)} {σ:St} {H:Hp} {s:Shared} {a:Addr} {y d:V} {u r:Value} {o:Option V} {A:Around} {E:Value→Shared→Prop}
end
section
variable {X:Cx} {o e f:Expr} {apos cpos:Pos} {td ty tx:TE}
end
section
variable {X:Cx} {pins:List (Addr × Obj)} {σ:St} {H:Hp} {s:Shared} {a:Addr} {kvs:List (Key × V)} {A:Around} {E:Value→Shared→Prop}
end
section
variable {X:Cx} {pins:List (Addr × Obj)} {σ:St} {H:Hp} {s:Shared} {a:Addr} {y:V} {u:Value} {A:Around} {E:Value→Shared→Prop}
end
end L2
namespace Att
open PySem PySem.W PySem.Calls PyProof.Rows
theorem ze6 {P:Params} {h:Heap}:∀ (ns:List Int) (vs:List Value),WellAll P h vs (ns.map WData.int)→IntsAre vs ns:=by
 intro ns
 induction ns with
 | nil =>
  intro vs w
  rw [List.map_nil] at w
  cases w
  exact .nil
 | cons n ns ih =>
  intro vs w
  rw [List.map_cons] at w
  cases w with
  | cons a b =>
   cases a
   exact .cons _ _ (ih _ b)
theorem zki {l:OpenLaw} {n:Nat} (hn:l.most=some n) {P:Params} {h:Heap} {args:List WData} {vals:List Value}
  (hpre:l.row.toRowW.claim.pre args=true) (hwl:WellAll P h vals args) :
  ∃ a vs ns,vals=[Value.ref a]∧args=[WData.list (ns.map WData.int)]∧h.get? a=some { cls := .type "list",data := .seq vs.toArray }∧IntsAre vs ns∧ns.length ≤ n:=by
 have hsh:WShape.hasAll [] args [.list .int]=true:=(pre_splitW hpre).1
 have hc:l.pre.holds [] { args:=args }=true:=(pre_splitW hpre).2
 obtain ⟨d,r,rfl,h1,h2⟩:=hasAllW_cons hsh
 obtain rfl:=hasAllW_nil h2
 obtain ⟨xs,rfl,h3⟩:=hasW_list h1
 obtain ⟨ns,rfl⟩:=items_int h3
 have hlen:ns.length ≤ n:=by
  unfold OpenLaw.pre at hc
  have h4:(WTm.not (.lt (.lit (.int (n:Int))) (.len (.arg 0)))).holds [] { args:=[.list (ns.map .int)] }=true:=by
   have h4:=(holds_andW hc).1
   rw [hn] at h4
   exact h4
  have h5:=condW_of h4 (w_not (w_lt w_lit (w_len_list (w_arg rfl))))
  rw [List.length_map] at h5
  refine Nat.le_of_not_lt fun q=>?_
  have q':(n:Int) < ((ns.length:Nat):Int):=by omega
  first
   | (rw [decide_eq_true q'] at h5;exact absurd h5 (by decide))
   | (simp at h5;omega)
 cases hwl with
 | cons w1 w2 =>
  cases w2
  cases w1 with
  | list ho hall=>exact ⟨_,_,ns,rfl,rfl,ho,ze6 ns _ hall,hlen⟩
theorem zj5 (l:OpenLaw) (args:List WData):l.row.toRowW.claim.post args (.bool true) args=true :=
 postW_of (r:=l.row.toRowW) (X:=(true == true))
  (show WShape.has [] (.bool true) .bool=true by first | rfl | decide | simp [WShape.has,WShape.arms,WShape.armsAll])
  (show (WTm.eq .res (.lit (.bool true))).value [] { args:=args,res:=some (.bool true),after:=args }=some (.bool (true == true)) from w_eq_bool (w_res rfl) w_lit) rfl
theorem ziB {l:OpenLaw} {n:Nat} {q:Program} {loose:List Str} {XP:(Str→Option Value)→Heap→Prop} {YP:World→Heap→Prop} {d:DefRec}
  (hn:l.most=some n) (hdf:d.params.defaults=[])
  (call:∀ (w:World) (s₀ s₁:Shared) (mg mb:Str→Option Value) (fa:Addr) (o:Obj) (pm cd doc:Value) (a:Addr) (vs:List Value) (ns:List Int),
   Ground q loose [] XP w s₀ mg mb s₁.heap→YP w s₁.heap →
   s₁.heap.get? fa=some o→o.data = .func (docDef d.name d.params d.body d.scope pm cd doc)→s₁.heap.CodeRec cd d.name→mg d.name=some (.ref fa) →
   s₁.heap.get? a=some { cls := .type "list",data := .seq vs.toArray }→IntsAre vs ns→ns.length ≤ n→s₁.gens = #[] →
   codeAny (model l.prog w) callerA (.call (.ref fa) ⟨[.ref a],[]⟩) (fun r s'=>r = .ok (.ret (.bool true))∧OldK s₁.heap s'.heap∧s'.os=s₁.os∧AllBare s'.gens) s₁) :
  WalkO q loose XP YP l.row.toRowW d [] (fun f vs=>PySem.call f vs):=by
 intro w s₀ s₁ mg mb G Y fa o pm cd doc dV kV ho hd hcd hD hmg hg args vals as hpre hlay hrd hwl hlo
 obtain rfl:dV = .none:=Dflts.none hD hdf
 obtain rfl:kV = .none:=Dflts.noKw hD
 obtain ⟨a,vs,ns,rfl,rfl,hobj,hints,hlen⟩:=zki hn hpre hwl
 refine enter_call (codeAny_mono (call w s₀ s₁ mg mb fa o pm cd doc a vs ns G Y ho (fd_plain hd) hcd hmg hobj hints hlen hg) fun r s' hq=>?_)
 obtain ⟨rfl,h2,h3,h4⟩:=hq
 exact ⟨.inl ⟨.bool true, .bool true,[],rfl,fun _=>rfl, .bool true,zj5 l _,fun _=>⟨List.Pairwise.nil,fun _ hm=>(nomatch hm)⟩⟩,h2,h3,h4⟩
section
variable {prog:Program} {w:World} {A:Around} {E:Value→Shared→Prop} {s:Shared} {K:Frag}
def ledger (h:Heap) (L d:Addr):List (Addr × Obj):=(List.range h.objs.size).filterMap fun a=>if a=L∨a=d then none else (h.get? a).map fun o=>(a,o)
end
end Att
namespace L2
open PySem PySem.Spec PyProof.Rows
theorem zhO:∀ {vs:List Value} {ns:List Int},IntsAre vs ns→Vals (ns.map V.int) vs
 | _,_, .nil => .nil
 | _,_, .cons n t h => .cons ⟨t,rfl⟩ (zhO h)
def Only (H:Hp):Prop:=∀ b,H b=none∨∃ o xs,H b=some (.frz o (.lst xs))
theorem zmb {P:Program} {w:World} {K:PySem.W.Frag} {mg mb:Str→Option Value} {CX:CXT} {k:Nat} {fa a:Addr} {fd:FuncData} {x:Str} {sp:Sp} {s₁:Shared} {vs:List Value} {ns:List Int}
  (KX:K.In s₁.heap) (hns:s₁.heap.Ns mainGlobals mg) (hb:s₁.heap.Ns builtinsNs mb) (hbb:∀ x:Str,x ≠ "__name__"→mb x=bootBuiltins x) (hlim:s₁.heap.NoLimit) (hg:s₁.gens = #[])
  (ha:s₁.heap.get? a=some { cls := .type "list",data := .seq vs.toArray }) (hi:IntsAre vs ns) (hl:ns.length ≤ sizeLine) (hr:Room k callerA)
  (F:∀ base:Heap,K.In base→base.Ns mainGlobals mg→FnOk P w K mg base CX k fa fd [x] sp) (hbind:∀ (s:Shared) (u:Value),BindsTo s fd ⟨[u],[]⟩ [(x,u)])
  (hsp:∀ H:Hp,Only H→SqL K H a (ns.map V.int)→sp [.ref a] H (fun v _=>v = .bl true) fun _ _ _=>False)
  (hCX:∀ H e s',CX [] H s₁ (fun _ _ _=>False) e s'→False) :
  codeAny (model P w) callerA (.call (.ref fa) ⟨[.ref a],[]⟩) (fun r s'=>r = .ok (.ret (.bool true))∧OldK s₁.heap s'.heap∧s'.os=s₁.os∧AllBare s'.gens) s₁:=by
 have rv:=zhO hi
 have lenV:=hi.length
 have core:∀ H:Hp,Only H→SqL K H a (ns.map V.int)→HOk P w H s₁.heap→(∀ b,H b ≠ none→b=a)→(H a ≠ none→K.lookup a=none) →
   codeAny (model P w) callerA (.call (.ref fa) ⟨[.ref a],[]⟩) (fun r s'=>r = .ok (.ret (.bool true))∧OldK s₁.heap s'.heap∧s'.os=s₁.os∧AllBare s'.gens) s₁:=by
  intro H hO hS hok hA hK
  have base_of:∀ {b:Addr} {o:Obj},s₁.heap.get? b=some o→H b=none→(hidT s₁.heap H).get? b=some o:=fun e n=>zmg e n
  have noA:∀ {b:Addr} {o:Obj} {es:Array DictEntry} {ep:Nat},s₁.heap.get? b=some o→o.data = .dict es ep→H b=none:=fun {b o es ep} e d=>by
   cases q:H b with
   | none=>rfl
   | some u =>
    have e':b=a:=hA b (by rw [q];simp)
    subst e'
    rw [ha] at e;cases e
    have d':Data.seq vs.toArray _=Data.dict es ep:=d
    cases d'
  have nsK:∀ {b:Addr} {m:Str→Option Value},s₁.heap.Ns b m→(hidT s₁.heap H).Ns b m:=fun {b m} ⟨o,es,ep,e,d,r⟩=>⟨o,es,ep,base_of e (noA e d),d,r⟩
  have hKb:K.In (hidT s₁.heap H):=fun b o e=>base_of (KX b o e) (by
   cases q:H b with
   | none=>rfl
   | some u =>
    have e':b=a:=hA b (by rw [q];simp)
    subst e'
    rw [hK (by rw [q];simp)] at e;cases e)
  have hM:Mod K mg (hidT s₁.heap H):=⟨hKb,nsK hns,⟨mb,nsK hb,hbb⟩,let ⟨mc,h1,h2⟩:=hlim; ⟨mc,nsK h1,h2⟩⟩
  have e0:Env0 P w K mg (hidT s₁.heap H) callerA [] s₁ H:=⟨rfl,hM,fun b o e=>znc e,Nat.le_of_eq (zj1 _ _),trivial,fun b hb=>absurd (show b ∈ ([] : List Addr) from hb) (by simp),hok, .of_eq hg⟩
  refine codeAny_mono ((F _ hKb (nsK hns)).run callerA [] s₁ H ⟨[.ref a],[]⟩ [.ref a] [.ref a] _ _ hr e0 (hbind s₁ (.ref a)) (.cons rfl .nil) (hsp H hO hS)) fun r s' h=>?_
  cases r with
  | error e=>exact (hCX H e s' h).elim
  | ok fl =>
   cases fl with
   | next=>exact False.elim h
   | brk=>exact False.elim h
   | cont=>exact False.elim h
   | ret u =>
    obtain ⟨v,H',os,bare,un,hok',r',q⟩:=h
    have q':v = .bl true:=q
    subst q'
    obtain rfl:u=Value.bool true:=r'
    refine ⟨rfl,OldK.of_keep fun b o e=>?_,os,bare⟩
    cases q:H b with
    | none=>exact un.keep b o e q (by intro z;exact absurd (show b ∈ ([] : List Addr) from z) (by simp)) (by simp)
    | some u =>
     rcases hO b with z | ⟨ob,xs,z⟩
     ·rw [q] at z;cases z
     ·have z2:=un.frzs b ob _ z
      obtain ⟨e1,_⟩:=hok b _ z
      obtain ⟨e2,_⟩:=hok' b _ z2
      rw [e] at e1;cases e1
      exact e2
 cases hk:K.lookup a with
 | some o =>
  have e:=KX a o hk
  rw [ha] at e
  cases e
  refine core (fun _=>none) (fun _ => .inl rfl) (.inr ⟨_,vs.toArray,_,hk,rfl,rfl,rfl,by rw [List.size_toArray,lenV];exact hl,by simpa using rv⟩) (fun b u z=>by have z':(none:Option HO)=some u:=z;cases z') (fun b z=>absurd rfl z) fun z=>absurd rfl z
 | none =>
  refine core (fun b=>if b=a then some (.frz { cls := .type "list",data := .seq vs.toArray } (.lst (ns.map V.int))) else none) (fun b=>?_) (.inl (.inr ⟨{ cls := .type "list",data := .seq vs.toArray },if_pos rfl⟩)) (fun b u z=>?_) (fun b z=>?_) fun _=>hk
  ·by_cases hb:b=a
   ·exact .inr ⟨_,_,if_pos hb⟩
   ·exact .inl (if_neg hb)
  ·by_cases hb:b=a
   ·have z':=(if_pos hb).symm.trans z
    cases z'
    subst hb
    exact ⟨ha,by rw [List.length_map];exact hl,vs,_,rv,ha⟩
   ·have z':=(if_neg hb).symm.trans z
    cases z'
  ·by_cases hb:b=a
   ·exact hb
   ·exact absurd (if_neg hb) z
end L2
namespace L2
open PySem PySem.Spec PyProof.Rows
theorem zmT {l:PySem.W.OpenLaw} {n k:Nat} {q:Program} {loose:List Str} {XP:(Str→Option Value)→Heap→Prop} {YP:World→Heap→Prop} {d:DefRec} {K:Params→PySem.W.Frag} {CX:World→CXT} {sp:World→Sp} {x:Str}
  (hn:l.most=some n) (hn2:n ≤ sizeLine) (hdf:d.params.defaults=[]) (hr:Room k callerA)
  (hY:∀ (w:World) (h:Heap),YP w h→(K w.params).In h)
  (F:∀ (w:World) (mg:Str→Option Value) (fa:Addr) (h:Heap),(K w.params).In h→h.Ns mainGlobals mg→mg d.name=some (.ref fa) →
   ∃ fd:FuncData,(∀ (s:Shared) (u:Value),BindsTo s fd ⟨[u],[]⟩ [(x,u)]) ∧
    ∀ base:Heap,(K w.params).In base→base.Ns mainGlobals mg→FnOk l.prog w (K w.params) mg base (CX w) k fa fd [x] (sp w))
  (hsp:∀ (w:World) (H:Hp) (a:Addr) (ns:List Int),ns.length ≤ n→Only H→SqL (K w.params) H a (ns.map V.int)→sp w [.ref a] H (fun v _=>v = .bl true) fun _ _ _=>False)
  (hCX:∀ (w:World) (H:Hp) (s:Shared) (e:Value) (s':Shared),CX w [] H s (fun _ _ _=>False) e s'→False) :
  PySem.W.WalkO q loose XP YP l.row.toRowW d [] (fun f vs=>PySem.call f vs):=by
 refine Att.ziB hn hdf fun w s₀ s₁ mg mb fa o pm cd doc a vs ns G Y ho hd hcd hmg hobj hints hlen hg=>?_
 have KX:=hY w _ Y
 obtain ⟨fd,hb,hF⟩:=F w mg fa _ KX G.T.g hmg
 exact zmb KX G.T.g G.T.b G.T.builtins G.T.nolimit hg hobj hints (Nat.le_trans hlen hn2) hr hF hb (fun H hO hS=>hsp w H a ns hlen hO hS) fun H e s'=>hCX w H s₁ e s'
end L2
namespace L2
open PySem PySem.Spec PyProof.Rows
def inClass (s:Stmt) (j:Nat):Stmt:=match s with
 | .ClassDef _ _ _ body _ _ _ _ _ _ _=>body.getD j (.Pass ⟨0,0,0,0⟩)
 | _ => .Pass ⟨0,0,0,0⟩
def zau (s:Stmt):Arguments:=match s with
 | .FunctionDef _ a _ _ _ _ _ _ _ _=>a
 | _=>{ posonlyargs:=[],args:=[],vararg:=none,kwonlyargs:=[],kw_defaults:=[],kwarg:=none,defaults:=[] }
def zai (s:Stmt):List Stmt:=match s with
 | .FunctionDef _ _ b _ _ _ _ _ _ _=>b
 | _=>[]
def zab (s:Stmt):Scope:=match s with
 | .FunctionDef _ _ _ _ _ _ sc _ _ _=>sc
 | _=>{ kind := .function,names:=[],isGenerator:=false,isCoroutine:=false }
abbrev CX0:CXT:=fun _ _ _ _ _ _=>False
abbrev E0:XK:=fun _ _ _=>False
theorem zqG {X:Cx}:Passes CX0 X E0:=fun _ _ _ _ _ _ _ h=>h.elim
structure Fun (K:PySem.W.Frag) (x qual:Str) (st:Stmt) (f:Addr) (fd:FuncData):Prop where
 ex:∃ (oc:Value) (od:Option Addr) (kV doc pm:Value) (an:Option Addr) (cdv ct:Value) (osl:Array (Option Value)),
  fd=PySem.W.fnOf x qual (zau st) (zai st) (zab st) .none kV doc pm an cdv ct∧K.lookup f=some ⟨oc,od, .func fd,osl⟩∧PySem.W.codeIn K cdv qual=true
 kp:PySem.W.keepIn K (.ref f)=true
section
variable {P:Program} {w:World} {K:PySem.W.Frag} {mg:Str→Option Value} {base:Heap}
theorem Fun.ok {x qual:Str} {st:Stmt} {f:Addr} {fd:FuncData} {N ps:List Str} {k:Nat} {sp:Sp} (F:Fun K x qual st f fd) (S:zat N ps (zab st)) (len:∀ vs H Q E,sp vs H Q E→vs.length=ps.length)
  (hbody:∀ (cdv:Value) (A:Around) (outer:List Env) (s:Shared) (H:Hp) (vs:List V) (Q:VK) (E:XK),Room k (A.deeper (envOfC qual (zab st) s.heap.objs.size f cdv))→sp vs H Q E →
   ∃ t,PSs (cxOf CX0 P w K mg base N qual (zab st) f cdv A outer s H E).nox (zai st) t∧t { nx:=fun _ H'=>Q .non H',rt:=Q } (start N vs) H):FnOk P w K mg base CX0 (k + 1) f fd ps sp:=by
 obtain ⟨oc,od,kV,doc,pm,an,cdv,ct,osl,rfl,lk,hcd⟩:=F.ex
 refine zlU lk hcd S len fun A outer s H vs Q E hr hsp=>?_
 obtain ⟨t,h,q⟩:=hbody cdv A outer s H vs Q E hr hsp
 exact ⟨t,h.nox,q⟩
theorem Fun.binds {x qual:Str} {st:Stmt} {f:Addr} {fd:FuncData} {ps:List Str} (F:Fun K x qual st f fd)
  (h:∀ (kV doc pm:Value) (an:Option Addr) (cdv ct:Value) (us:List Value),us.length=ps.length→bindArgs (PySem.W.fnOf x qual (zau st) (zai st) (zab st) .none kV doc pm an cdv ct) ⟨us,[]⟩ = pure (ps.zip us)):Binds K fd ps []:=by
 obtain ⟨oc,od,kV,doc,pm,an,cdv,ct,osl,rfl,lk,hcd⟩:=F.ex
 exact .all (h kV doc pm an cdv ct)
theorem zkK {x qual:Str} {st:Stmt} {f:Addr} {oc:Value} {od an:Option Addr} {osl:Array (Option Value)} {kV doc pm cdv ct:Value} (l:K.lookup f=some ⟨oc,od, .func (PySem.W.fnOf x qual (zau st) (zai st) (zab st) .none kV doc pm an cdv ct),osl⟩)
  (c:PySem.W.codeIn K cdv qual=true) (k:PySem.W.keepIn K (.ref f)=true):Fun K x qual st f (PySem.W.fnOf x qual (zau st) (zai st) (zab st) .none kV doc pm an cdv ct):=⟨⟨oc,od,kV,doc,pm,an,cdv,ct,osl,rfl,l,c⟩,k⟩
end
section
variable {X:Cx}
end
def Same (H H':Hp):Prop:=∀ b o,H b=some o→H' b=some o
theorem Same.refl (H:Hp):Same H H:=fun _ _ h=>h
theorem Same.trans {H H1 H2:Hp} (a:Same H H1) (b:Same H1 H2):Same H H2:=fun c o h=>b c o (a c o h)
theorem Same.free {H H':Hp} (e:Same H H') {l:Addr} (h:H' l=Option.none):H l=Option.none:=by
 cases q:H l with
 | none=>rfl
 | some o =>
  rw [e l o q] at h
  cases h
theorem Same.seq {K:PySem.W.Frag} {H H':Hp} {a:Addr} {xs:List V} (e:Same H H') (h:SqL K H a xs):SqL K H' a xs:=by
 rcases h with (h | ⟨o,h⟩) | h
 ·exact .inl (.inl (e _ _ h))
 ·exact .inl (.inr ⟨o,e _ _ h⟩)
 ·exact .inr h
section
variable {κ:Type} [DecidableEq κ]
end
end L2
namespace L2
open PySem
theorem zh8 (env:Env):∀ (names:List (Str × NameKind)) (cs:List (Str × Addr)),(∀ y ∈ names,y.2 = .free→∃ c,env.cells.lookup y.1=some c) →
  ∃ cl,(forIn names cs (fun (x:Str × NameKind) (cs:List (Str × Addr))=>(match x with | (name,kind)=>if (kind == NameKind.free)=true then (do let c ← cellOf env name;pure (ForInStep.yield ((name,c) :: cs))) else pure (ForInStep.yield cs))):Sem (List (Str × Addr)))=pure cl ∧
   (∀ x c,cl.lookup x=some c→cs.lookup x=some c∨env.cells.lookup x=some c)∧(∀ y ∈ names,y.2 = .free→∃ c,cl.lookup y.1=some c)∧(∀ x c,cs.lookup x=some c→∃ c',cl.lookup x=some c')
 | [],cs,_=>⟨cs,rfl,fun _ _ h => .inl h,fun _ h=>(nomatch h),fun _ c h=>⟨c,h⟩⟩
 | (n,k) :: r,cs,h=>by
  by_cases hk:k = .free
  ·subst hk
   obtain ⟨c,hc⟩:=h (n, .free) (List.mem_cons_self ..) rfl
   obtain ⟨cl,e,h1,h2,h3⟩:=zh8 env r ((n,c) :: cs) fun y hy=>h y (List.mem_cons_of_mem _ hy)
   refine ⟨cl,?_,fun x d hd=>?_,fun y hy hf=>?_,fun x d hd=>?_⟩
   ·rw [List.forIn_cons]
    simp only [beq_self_eq_true,if_true,cellOf,hc,pure_bind]
    exact e
   ·rcases h1 x d hd with q | q
    ·rw [List.lookup_cons] at q
     split at q
     ·rename_i hx
      have hx':x=n:=by simpa using hx
      subst hx'
      exact .inr (hc.trans q)
     ·exact .inl q
    ·exact .inr q
   ·rcases List.mem_cons.mp hy with e' | e'
    ·subst e'
     exact h3 n c (by simp)
    ·exact h2 y e' hf
   ·by_cases hx:x=n
    ·subst hx
     exact h3 x c (by simp)
    ·have hb:(x == n)=false:=by simpa using hx
     exact h3 x d (by rw [List.lookup_cons,hb];exact hd)
  ·obtain ⟨cl,e,h1,h2,h3⟩:=zh8 env r cs fun y hy=>h y (List.mem_cons_of_mem _ hy)
   have hb:(k == NameKind.free)=false:=by simpa using hk
   refine ⟨cl,?_,h1,fun y hy hf=>?_,h3⟩
   ·rw [List.forIn_cons]
    simp only [hb,Bool.false_eq_true,if_false,pure_bind]
    exact e
   ·rcases List.mem_cons.mp hy with e' | e'
    ·subst e';exact absurd hf hk
    ·exact h2 y e' hf
theorem zgr {scope:Scope} {env:Env} (h:∀ y ∈ scope.names,y.2 = .free→∃ c,env.cells.lookup y.1=some c) :
  ∃ cl,closureFor scope env=pure cl∧(∀ x c,cl.lookup x=some c→env.cells.lookup x=some c)∧∀ y ∈ scope.names,y.2 = .free→∃ c,cl.lookup y.1=some c:=by
 obtain ⟨cl,e,h1,h2,_⟩:=zh8 env scope.names [] h
 refine ⟨cl,?_,fun x c hc=>(h1 x c hc).resolve_left (by simp),h2⟩
 unfold closureFor
 refine Eq.trans (congrArg (fun m=>m >>= fun cs=>pure cs) e) ?_
 rfl
section
variable {prog:Program} {w:World} {A:Around} {E:Value→Shared→Prop} {s:Shared}
end
end L2
namespace L2
open PySem PySem.Spec PyProof.Rows
section
variable {prog:Program} {w:World} {A:Around} {R:Result→Shared→Prop} {s:Shared}
theorem zg0 {elt target iter:Expr} {ifs:List Expr} {scope:Scope} {pos:Pos} {it acc:Value} {env:Env} (I:Nat→Shared→Prop)
  (turn:∀ n s,I n s→wpAny (model prog w) A (pyNext it) (fun r s₁=>match r with
   | none=>R (.ok .next) s₁
   | some v=>wpAny (model prog w) A (letOwnedTupleGo target it v) (fun _ s₁'=>wpAny (model prog w) A (assign target env v) (fun _ s₂ =>
     wpAny (model prog w) A (forIn ifs true fun c r=>if r=true then do let ok ← isTrue c env (eval c env);pure (ForInStep.yield ok) else pure (ForInStep.yield r)) (fun ok s₃ =>
      if ok=true then wpAny (model prog w) A (eval elt env) (fun x s₄ =>
       wpAny (model prog w) A (call (.builtin "list.append") [acc,x]) (fun _ s₅=>∃ m,m < n∧I m s₅) (fun _ _=>False) s₄) (fun _ _=>False) s₃
      else ∃ m,m < n∧I m s₃) (fun _ _=>False) s₂) (fun _ _=>False) s₁') (fun _ _=>False) s₁) (fun _ _=>False) s)
  (n:Nat) (h:I n s) :
  codeAny (model prog w) A (.compLoop (.ListComp elt [⟨target,iter,ifs,0⟩] scope pos) 0 it acc env) R s:=by
 refine codeAny_loop rfl I (fun n s hI=>?_) n h
 show wpAny _ A ((compTurn (.ListComp elt [⟨target,iter,ifs,0⟩] scope pos) 0 it acc env).onRaise (fun x=>do noteFrame x env;theTreesLotGoes x)) _ _ s
 refine wpAny_noted ?_
 rw [compTurn_list]
 refine wpAny_bind (wpAny_standAt (wpAny_bind (wpAny_mono (turn n s hI) (fun r s₁ h₁=>?_) fun _ _ h'=>h'.elim)))
 cases r with
 | none=>exact wpAny_pure h₁
 | some v =>
  refine wpAny_bind (wpAny_mono h₁ (fun _ s₁' h₁'=>?_) fun _ _ h'=>h'.elim)
  refine wpAny_bind (wpAny_mono h₁' (fun _ s₂ h₂=>wpAny_bind (wpAny_mono h₂ (fun ok s₃ h₃=>?_) fun _ _ h'=>h'.elim)) fun _ _ h'=>h'.elim)
  cases ok with
  | false=>exact wpAny_pure ⟨rfl,h₃⟩
  | true =>
   exact wpAny_bind (wpAny_bind (wpAny_mono h₃ (fun x s₄ h₄=>wpAny_bind (wpAny_mono h₄ (fun _ s₅ h₅=>wpAny_pure (wpAny_pure ⟨rfl,h₅⟩)) fun _ _ h'=>h'.elim)) fun _ _ h'=>h'.elim))
end
def PIf (X:Cx) (ifs:List Expr) (t:TT):Prop :=
 ∀ (pins:List (Addr × Obj)) (s:Shared) (σ:St) (H:Hp) (Q:Bool→Hp→Prop),Inv X pins σ H s→t σ H Q →
  wpAny (model X.prog X.w) X.A (forIn ifs true fun c r=>if r=true then do let ok ← isTrue c X.env (eval c X.env);pure (ForInStep.yield ok) else pure (ForInStep.yield r)) (TP X pins σ Q) X.xe s
def tYes:TT:=fun _ H Q=>Q true H
theorem zog {X:Cx}:PIf X [] tYes:=fun _ _ _ H _ I h=>wpAny_tests_nil ⟨H,I,h⟩
theorem zn1 {X:Cx} {c:Expr} {t:TT} (h:PT X c t):PIf X [c] t:=fun pins s σ H Q I q=>wpAny_tests_one (h pins s σ H Q I q)
def lcCx (X:Cx) (scope:Scope) (ls:List Str) (js:List Nat) (cl:List (Str × Addr)) (C:Addr) (s:Shared) (H:Hp) (fp:List Addr):Cx :=
 { X with N:=ls ++ js.map (fun j=>X.N.getD j Str.empty),s₀:=s,H₀:=H,env:=compEnvC scope cl C X.env,outer:=X.stack,ex:=fp,fn:=fun _=>false,xe:=fun _ _=>False }
def lcSt (ls:List Str) (js:List Nat) (σ:St):St:=ls.map (fun _=>none) ++ js.map (fun j=>(σ[j]?).join)
def gk (env:Env) (n:Str) (k:NameKind):NameKind:=if (k == NameKind.free && env.scope.kind == .function && env.kindOf n == some .cell)=true then .cell else k
theorem ziP (env:Env) (names:List (Str × NameKind)):(names.map fun (n,k)=>if (k == NameKind.free && env.scope.kind == .function && env.kindOf n == some .cell) then (n,NameKind.cell) else (n,k))=names.map fun p=>(p.1,gk env p.1 p.2):=by
 refine List.map_congr_left fun p _=>?_
 obtain ⟨n,k⟩:=p
 show (if (k == NameKind.free && env.scope.kind == .function && env.kindOf n == some .cell)=true then (n,NameKind.cell) else (n,k))=(n,gk env n k)
 unfold gk
 split <;> rfl
theorem zeD (env:Env) (x:Str):∀ names:List (Str × NameKind),(names.map fun p=>(p.1,gk env p.1 p.2)).lookup x=(names.lookup x).map (gk env x)
 | []=>rfl
 | (n,k) :: r=>by
  rw [List.map_cons]
  cases hx:x == n with
  | true =>
   have e:x=n:=by simpa using hx
   subst e
   rw [List.lookup_cons,List.lookup_cons]
   simp
  | false =>
   rw [List.lookup_cons,List.lookup_cons]
   simp only [hx]
   exact zeD env x r
theorem lookup_mem {x:Str} {k:NameKind}:∀ {names:List (Str × NameKind)},names.lookup x=some k→(x,k) ∈ names
 | [],h=>by simp at h
 | (n,k') :: r,h=>by
  rw [List.lookup_cons] at h
  cases hx:x == n with
  | true =>
   have e:x=n:=by simpa using hx
   subst e
   simp only [beq_self_eq_true] at h
   cases h
   exact List.mem_cons_self ..
  | false =>
   simp only [hx] at h
   exact List.mem_cons_of_mem _ (lookup_mem h)
theorem zbC {env:Env} {names:List (Str × NameKind)} {x:Str} (h:names.lookup x=some .free) :
  (names.map fun (n,k)=>if (k == NameKind.free && env.scope.kind == .function && env.kindOf n == some .cell) then (n,NameKind.cell) else (n,k)).lookup x=some .cell ∨
  (names.map fun (n,k)=>if (k == NameKind.free && env.scope.kind == .function && env.kindOf n == some .cell) then (n,NameKind.cell) else (n,k)).lookup x=some .free:=by
 rw [ziP,zeD,h]
 show some (gk env x .free)=some .cell∨some (gk env x .free)=some .free
 unfold gk
 split
 ·exact .inl rfl
 ·exact .inr rfl
theorem zdf {env:Env} {names:List (Str × NameKind)} {x:Str} (hc:∀ y ∈ names,y.2 ≠ .cell)
  (h:(names.map fun (n,k)=>if (k == NameKind.free && env.scope.kind == .function && env.kindOf n == some .cell) then (n,NameKind.cell) else (n,k)).lookup x=some .cell ∨
   (names.map fun (n,k)=>if (k == NameKind.free && env.scope.kind == .function && env.kindOf n == some .cell) then (n,NameKind.cell) else (n,k)).lookup x=some .free):(x,NameKind.free) ∈ names:=by
 rw [ziP,zeD] at h
 cases e:names.lookup x with
 | none=>rw [e] at h;rcases h with h | h <;> cases h
 | some k =>
  have hm:=lookup_mem e
  by_cases hk:k = .free
  ·rw [hk] at hm;exact hm
  ·rw [e] at h
   have hg:gk env x k=k:=by
    unfold gk
    have hb:(k == NameKind.free)=false:=by simpa using hk
    rw [hb]
    rfl
   have h':gk env x k = .cell∨gk env x k = .free:=h.imp (fun z=>Option.some.inj z) fun z=>Option.some.inj z
   rw [hg] at h'
   rcases h' with z | z
   ·exact absurd z (hc _ hm)
   ·exact absurd z hk
structure LcOk (X:Cx) (scope:Scope) (ls:List Str) (js:List Nat):Prop where
 kind:scope.kind = .function
 cell:∀ y ∈ scope.names,y.2 ≠ .cell
 names:∀ y ∈ scope.names,y.2 = .local→scope.names.lookup y.1=some .local
 free:∀ y ∈ scope.names,y.2 = .free→X.env.kindOf y.1=some .cell∨X.env.kindOf y.1=some .free
 cap:∀ j ∈ js,∃ x,X.N[j]? = some x∧scope.names.lookup x=some .free
section
variable {X:Cx} {pins:List (Addr × Obj)} {σ:St} {H:Hp} {s:Shared}
theorem zn0 {scope:Scope} {ls:List Str} {js:List Nat} {cl:List (Str × Addr)} {C:Addr} {fp:List Addr} (L:LcOk X scope ls js) (I:Inv X pins σ H s)
  (h1:∀ x c,cl.lookup x=some c→X.env.cells.lookup x=some c) (h2:∀ y ∈ scope.names,y.2 = .free→∃ c,cl.lookup y.1=some c)
  {s':Shared} {H':Hp} (hC:s'.heap.objs.size ≤ C) (bs:∀ b o,X.base.get? b=some o→s'.heap.get? b=some o∧H' b=none) (bsz:X.base.objs.size ≤ s'.heap.objs.size)
  (funs:s'.heap.FunFrames X.base X.stack) (frf:∀ b ∈ frs X.stack,H' b=none)
  (exf:∀ b ∈ fp,b ≠ C∧∀ x c,X.env.cells.lookup x=some c→c ≠ b) (noex:∀ b o,X.base.get? b=some o→b ∉ fp) (exfs:∀ b ∈ fp,b ∉ frs X.stack) :
  (lcCx X scope ls js cl C s' H' fp).Ok where
 mod:=I.ok.mod
 kind:=L.kind
 glob:=I.ok.glob
 blt:=I.ok.blt
 above:=hC
 inj:=fun x y c a b=>I.ok.inj x y c (h1 x c a) (h1 y c b)
 has:=fun x hx=>h2 (x, .free) (zdf (env:=X.env) L.cell hx) rfl
 cab:=fun x c z=>by cases z
 hd:=I.ok.hd
 frames:=I.ok.frames
 stk := .inl rfl
 exf:=fun b hb=>⟨(exf b hb).1,fun x c e=>(exf b hb).2 x c (h1 x c e)⟩
 bs:=bs
 bsz:=bsz
 noex:=noex
 exfs:=exfs
 funs:=funs
 frf:=frf
theorem zlI {ls:List Str} {js:List Nat} {i:Nat} {v:V} (h:(lcSt ls js σ)[i]? = some (some v)):∃ k j,i=ls.length + k∧js[k]? = some j∧σ[j]? = some (some v):=by
 unfold lcSt at h
 by_cases hi:i < ls.length
 ·rw [List.getElem?_append_left (by simpa using hi),List.getElem?_map] at h
  cases e:ls[i]? with
  | none=>rw [e] at h;cases h
  | some y=>rw [e] at h;cases h
 ·rw [List.getElem?_append_right (by simpa using Nat.le_of_not_lt hi),List.getElem?_map,List.length_map] at h
  cases e:js[i - ls.length]? with
  | none=>rw [e] at h;cases h
  | some j =>
   rw [e] at h
   refine ⟨i - ls.length,j,by omega,e,?_⟩
   have h':(σ[j]?).join=some v:=Option.some.inj h
   cases q:σ[j]? with
   | none=>rw [q] at h';cases h'
   | some o =>
    rw [q] at h'
    exact congrArg some h'
def LcR (ls:List Str) (js:List Nat) (g:TG) (tc:TT) (te:TE) (σ:St) (Q:VK) (J:It) (H1:Hp):Prop:=∀ D,H1 D=none →
 ∃ W:Nat→Nat→St→Hp→Prop,(∃ m,W 0 m (lcSt ls js σ) (upd H1 D (.lst [])))∧∀ i m σ' H',W i m σ' H' →
  (J.stop i H'∧Q (.ref D) H')∨(J.go i H'∧∃ N:St→Hp→Prop,(∀ σ2 H2,N σ2 H2→∃ m',m' < m∧W (i + 1) m' σ2 H2) ∧
   ∀ x H2,J.yld i H' x H2→g x σ' H2 fun σ3 H3=>tc σ3 H3 fun c H4=>if c=true then te σ3 H4 fun y H5=>∃ ys,H5 D=some (.lst ys)∧ys.length < sizeLine∧N σ3 (upd H5 D (.lst (ys ++ [y]))) else N σ3 H4)
def tLC (ls:List Str) (js:List Nat) (wi:TI) (g:TG) (tc:TT) (te:TE):TE:=fun σ H Q=>wi σ H (LcR ls js g tc te σ Q)
theorem zqo {elt tg iter:Expr} {ifs:List Expr} {scope:Scope} {pos:Pos} {ls:List Str} {js:List Nat} {wi:TI} {g:TG} {tc:TT} {te:TE} (hc:X.calm=true) (L:LcOk X scope ls js) (hi:PI X tg iter wi)
  (hb:∀ cl C s H fp,PG (lcCx X scope ls js cl C s H fp) tg g∧PIf (lcCx X scope ls js cl C s H fp) ifs tc∧PE (lcCx X scope ls js cl C s H fp) elt te)
  (hs:∀ x,foldedSetIterable iter X.env x=pure x:=by intro _;rfl):PE X (.ListComp elt [⟨tg,iter,ifs,0⟩] scope pos) (tLC ls js wi g tc te):=by
 intro pins s σ H Q I h
 obtain ⟨cl,hcl,hk1,hk2⟩:=zgr (scope:=scope) (env:=X.env) fun y hy hf=>I.ok.has y.1 (L.free y hy hf)
 rw [eval_ListComp]
 refine wpAny_comprehension_free (use:=none) rfl hs hcl L.kind L.names (thn (hi pins s σ H _ I h) fun v s1 h1=>thn h1 fun itv s2 h2=>?_)
 obtain ⟨it,fp,tn,J,H1,e,I2,T,st2,f2,h2⟩:=h2
 subst e
 refine wpAny_newObj_type (wpAny_newFunctionEnv L.cell (by intro y hy;simp at hy) (fun h₁ hns₁ hsb₁=>?_) L.kind)
 dsimp only at hns₁ hsb₁ ⊢
 generalize hH2:s2.heap.push { cls := .type "list",dict:=none,data := .seq ([] : List Value).toArray }=G2 at hns₁ hsb₁ ⊢
 have hCz:G2.objs.size=s2.heap.objs.size + 1:=by rw [← hH2,Heap.size_push]
 have hD0:H1 s2.heap.objs.size=none:=I2.hok.fresh (Nat.le_refl _)
 have hC0:H1 G2.objs.size=none:=I2.hok.fresh (by omega)
 have hDC:s2.heap.objs.size ≠ G2.objs.size:=by omega
 have hG2D:G2.get? s2.heap.objs.size=some { cls := .type "list",dict:=none,data := .seq ([] : List Value).toArray }:=by rw [← hH2];exact Heap.get?_push_size _ rfl
 have keepG:∀ b o,s2.heap.get? b=some o→G2.get? b=some o:=fun b o e=>by rw [← hH2];exact Heap.get?_push_of_some _ e
 have I3:Inv X pins σ (upd H1 s2.heap.objs.size (.lst [])) { s2 with heap:=G2,toks:=s2.toks } :=
  I2.laid (t':=s2.toks) keepG (Nat.le_refl _) (show zcl X.prog X.w _ G2 _ (.lst []) from ⟨by simp,[],0, .nil,hG2D⟩)
 have keep1:∀ b o,G2.get? b=some o→h₁.get? b=some o:=fun b o e=>(hsb₁.2 b (Nat.ne_of_lt (Heap.lt_size e))).trans (Heap.get?_push_of_some _ e)
 have I4:Inv X pins σ (upd H1 s2.heap.objs.size (.lst [])) { s2 with heap:=h₁,toks:=s2.toks + 0 }:=I3.kept (h':=h₁) (t':=s2.toks + 0) keep1
 generalize hT:(H1,(⟨tg,iter,ifs,0⟩ : Comprehension))=junk
 clear hT junk
 have fpsz:∀ b ∈ fp,b < s2.heap.objs.size:=fun b hb=>by
  obtain ⟨o,e,_⟩:=T.obj 0 _ st2 b hb
  exact Heap.lt_size e
 have fpD:s2.heap.objs.size ∉ fp:=fun z=>Nat.lt_irrefl _ (fpsz _ z)
 have fpC:∀ b ∈ fp,b ≠ G2.objs.size:=fun b hb=>Nat.ne_of_lt (by rw [hCz];exact Nat.lt_succ_of_lt (fpsz b hb))
 have okC:(lcCx X scope ls js cl G2.objs.size { s2 with heap:=G2 } (upd H1 s2.heap.objs.size (.lst [])) fp).Ok:=by
  refine zn0 L I3 hk1 hk2 (Nat.le_refl _) I3.bs (Nat.le_trans I3.ok.bsz I3.sz) I3.stack I3.zh3 (fun b hb=>⟨fpC b hb,(f2 b hb).2.2.2.2.1⟩) (fun b o e hb=>?_) (fun b hb z=>?_)
  ·rcases (f2 b hb).2.2.2.1 with q | q
   ·exact I2.ok.noex b o e q
   ·exact absurd (Nat.lt_of_lt_of_le (Heap.lt_size (I2.ok.bs b o e).1) q) (Nat.lt_irrefl _)
  ·rcases List.mem_cons.mp (I3.zga b z) with q | q
   ·exact (f2 b hb).2.1 q
   ·exact (f2 b hb).2.2.1 q
 have IC:Inv (lcCx X scope ls js cl G2.objs.size { s2 with heap:=G2 } (upd H1 s2.heap.objs.size (.lst [])) fp) [] (lcSt ls js σ) (upd H1 s2.heap.objs.size (.lst [])) { s2 with heap:=h₁,toks:=s2.toks + 0 }:=by
  refine ⟨okC,rfl,I4.bare,Un.kept keep1,⟨_,hns₁,fun i x v e1 e2 e3=>?_⟩,fun x c e=>I4.cell x c (hk1 x c e),?_,fun x c e=>I4.freeC x c (hk1 x c e),fun p hp=>?_,I4.hok,?_⟩
  ·obtain ⟨k,j,hi',hj,hσ⟩:=zlI e2
   obtain ⟨y,hy,hyf⟩:=L.cap j (List.mem_of_getElem? hj)
   have hxy:x=y:=by
    have e1':(ls ++ js.map (fun j=>X.N.getD j Str.empty))[i]? = some x:=e1
    rw [hi',List.getElem?_append_right (Nat.le_add_right ..),Nat.add_sub_cancel_left,List.getElem?_map,hj] at e1'
    have e1'':X.N.getD j Str.empty=x:=Option.some.inj e1'
    rw [← e1'',List.getD_eq_getElem?_getD,hy]
    rfl
   subst hxy
   have hkf:X.env.kindOf x=some .cell∨X.env.kindOf x=some .free:=by
    have hm:(x,NameKind.free) ∈ scope.names:=by
     have q:=zdf (env:=X.env) L.cell (zbC (env:=X.env) hyf)
     exact q
    exact L.free _ hm rfl
   obtain ⟨m,hn,hl⟩:=I4.loc
   obtain ⟨u,r,l⟩:=hl j x v hy hσ (hkf.elim (fun z => .inr (.inl z)) fun z => .inr (.inr z))
   refine ⟨u,r, .inr ⟨zbC (env:=X.env) hyf,?_⟩⟩
   rcases l with ⟨kl,_⟩ | ⟨_,c,hc',z⟩
   ·rcases hkf with q | q
    ·rw [q] at kl;cases kl
    ·rw [q] at kl;cases kl
   ·have hm:(x,NameKind.free) ∈ scope.names:=zdf (env:=X.env) L.cell (zbC (env:=X.env) hyf)
    obtain ⟨c',hc''⟩:=hk2 _ hm rfl
    have:=hk1 _ _ hc''
    rw [hc'] at this
    cases this
    exact ⟨c,hc'',z⟩
  ·show upd H1 s2.heap.objs.size (.lst []) G2.objs.size=none
   rw [zaj (Ne.symm hDC)]
   exact hC0
  ·have hp':p ∈ X.pn:=by simpa [lcCx] using hp
   obtain ⟨e,n,ne,nf,d⟩:=I4.pin p (List.mem_append_left _ hp')
   obtain ⟨e3,_⟩:=I3.pin p (List.mem_append_left _ hp')
   refine ⟨e,n,?_,fun z=>?_,d⟩
   ·exact Nat.ne_of_lt (Heap.lt_size e3)
   ·rcases List.mem_cons.mp (I3.zga p.1 z) with q | q
    ·exact ne q
    ·exact nf q
  ·simp [lcSt,lcCx]
 obtain ⟨hbG,hbI,hbE⟩:=hb cl G2.objs.size { s2 with heap:=G2 } (upd H1 s2.heap.objs.size (.lst [])) fp
 obtain ⟨W,⟨m0,w0⟩,turn⟩:=h2 s2.heap.objs.size hD0
 have st0:tn 0 h₁:=T.keep _ _ _ st2 fun b hb o e=>keep1 b o (keepG b o e)
 have frz:∀ {H':Hp},(∀ b ∈ fp,H' b=none)→∀ b ∈ fp,FpOk (lcCx X scope ls js cl G2.objs.size { s2 with heap:=G2 } (upd H1 s2.heap.objs.size (.lst [])) fp) [] H' b:=fun hn b hb=>by
  refine ⟨hn b hb,fpC b hb,fun z=>?_, .inl hb,fun x c e=>(f2 b hb).2.2.2.2.1 x c (hk1 x c e),fun p hp=>?_⟩
  ·rcases List.mem_cons.mp (I3.zga b z) with q | q
   ·exact (f2 b hb).2.1 q
   ·exact (f2 b hb).2.2.1 q
  ·have hp':p ∈ X.pn:=by simpa [lcCx] using hp
   exact (f2 b hb).2.2.2.2.2 p (List.mem_append_left _ hp')
 have fr0:∀ b ∈ fp,(upd H1 s2.heap.objs.size (.lst [])) b=none:=fun b hb=>by
  rw [zaj (show b ≠ s2.heap.objs.size from Nat.ne_of_lt (fpsz b hb))]
  exact (f2 b hb).1
 have loop:∀ s4:Shared,s4 = { s2 with heap:=h₁,toks:=s2.toks + 0 } →
   codeAny (model X.prog X.w) X.A (.compLoop (.ListComp elt [⟨tg,iter,ifs,0⟩] scope pos) 0 (.ref it) (.ref s2.heap.objs.size) (compEnvC scope cl G2.objs.size X.env))
    (compPost (model X.prog X.w) X.A X.xe none (EP X pins σ Q) (.ref s2.heap.objs.size) G2.objs.size) s4:=by
  rintro s4 rfl
  refine zg0 (fun n s'=>∃ i σ' H',Inv (lcCx X scope ls js cl G2.objs.size { s2 with heap:=G2 } (upd H1 s2.heap.objs.size (.lst [])) fp) [] σ' H' s'∧tn i s'.heap∧(∀ b ∈ fp,H' b=none)∧W i n σ' H') ?_ m0 ⟨0,_,_,IC,st0,fr0,w0⟩
  rintro n s5 ⟨i,σ5,H5,I5,st5,fr5,w5⟩
  rcases turn i n σ5 H5 w5 with ⟨stop,qn⟩ | ⟨go,N,hN,step⟩
  ·refine thn (T.done (lcCx X scope ls js cl G2.objs.size { s2 with heap:=G2 } (upd H1 s2.heap.objs.size (.lst [])) fp) rfl rfl rfl hc i [] s5 σ5 H5 _ I5 (frz fr5) st5 stop) fun r s6 ⟨hr,I6⟩=>?_
   subst hr
   obtain ⟨m6,hn6,_⟩:=I6.loc
   refine ⟨m6,hn6,fun h' hsb=>⟨.ref s2.heap.objs.size,H5,?_,rfl,qn⟩⟩
   have un1:Un (frs X.stack) fp (upd H1 s2.heap.objs.size (.lst [])) H5 G2 s6.heap:=I6.base
   have un0:Un (frs X.stack) fp H1 (upd H1 s2.heap.objs.size (.lst [])) s2.heap G2:=Un.laid keepG (Nat.le_refl _) hD0
   have un:=un0.trans un1
   have neC:∀ b o,s2.heap.get? b=some o→b ≠ G2.objs.size:=fun b o e=>Nat.ne_of_lt (by rw [hCz];exact Nat.lt_succ_of_lt (Heap.lt_size e))
   have un':Un (frs X.stack) fp H1 H5 s2.heap h':=⟨fun b o e n a x=>(hsb.2 b (neC b o e)).trans (un.keep b o e n a x),fun b o e n a x=>by
    obtain ⟨sl,q⟩:=un.slot b o e n a x
    exact ⟨sl,(hsb.2 b (neC b o e)).trans q⟩,un.free,fun b o e x=>by
    obtain ⟨o',q⟩:=un.there b o e x
    exact ⟨o',(hsb.2 b (neC b o e)).trans q⟩,un.tups,un.frzs,un.tbls⟩
   have hok':HOk X.prog X.w H5 h':=fun b o e=>by
    refine (I6.hok b o e).stay (fun c u hc' q=>(hsb.2 c ?_).trans q) (fun _ q=>q) fun _ _ q=>q
    have hfree:H5 G2.objs.size=none:=I6.free
    rintro rfl
    rcases hc' with z | z
    ·subst z;rw [hfree] at e;cases e
    ·rw [hfree] at z;cases z
   refine I2.zod (s':={ s6 with heap:=h' }) (ch:=fp) ?_ un' hok' I6.bare fun b hb=>⟨(f2 b hb).2.2.2.1,(f2 b hb).2.1,(f2 b hb).2.2.2.2.1,(f2 b hb).2.2.2.2.2⟩
   exact I6.os
  ·refine thn (T.item (lcCx X scope ls js cl G2.objs.size { s2 with heap:=G2 } (upd H1 s2.heap.objs.size (.lst [])) fp) rfl rfl rfl hc i [] s5 σ5 H5 _ I5 (frz fr5) st5 go) fun r s6 ⟨u,hr,h6⟩=>?_
   subst hr
   refine thn h6 fun _ s7 ⟨x,H7,I7,r7,y7,st7,fr7⟩=>?_
   have I7':=I7.pinned (frz fr7) (T.obj _ _ st7)
   refine thn (hbG _ s7 σ5 H7 x u _ I7' r7 (step x H7 y7)) fun _ s8 ⟨σ8,H8,I8,q8⟩=>?_
   refine thn (hbI _ s8 σ8 H8 _ I8 q8) fun ok s9 ⟨H9,I9,q9⟩=>?_
   have again:∀ {σa:St} {Ha:Hp} {sa:Shared},Inv (lcCx X scope ls js cl G2.objs.size { s2 with heap:=G2 } (upd H1 s2.heap.objs.size (.lst [])) fp) ([] ++ zhN fp s7.heap) σa Ha sa→N σa Ha →
     ∃ m,m < n∧∃ i σ' H',Inv (lcCx X scope ls js cl G2.objs.size { s2 with heap:=G2 } (upd H1 s2.heap.objs.size (.lst [])) fp) [] σ' H' sa∧tn i sa.heap∧(∀ b ∈ fp,H' b=none)∧W i m σ' H':=fun {σa Ha sa} Ia na=>by
    obtain ⟨m',hm,wa⟩:=hN σa Ha na
    refine ⟨m',hm,i + 1,σa,Ha,Ia.zeW,T.keep _ _ _ st7 fun b hb o e=>(Ia.pin (b,o) (List.mem_append_right _ (List.mem_append_right _ (zdH hb e)))).1,fun b hb=>?_,wa⟩
    obtain ⟨o,e,d⟩:=T.obj _ _ st7 b hb
    exact (Ia.pin (b,o) (List.mem_append_right _ (List.mem_append_right _ (zdH hb e)))).2.1
   cases ok with
   | false=>exact again I9 q9
   | true =>
    refine thn (hbE _ s9 σ8 H9 _ I9 q9) fun y s10 ⟨z,H10,I10,r10,ys,hD,hlt,nn⟩=>?_
    obtain ⟨zz,its,k,r,hl,e⟩:=I10.lstM hD
    refine call_meets F.slot_list_append ⟨_,e,rfl⟩ F.entry_list_append (F.args_list_append_2 _ _) (PySem.list_append s2.heap.objs.size its.toArray k y (by rw [List.size_toArray];omega)) ⟨e,?_⟩
    refine again (I10.lset (its':=its ++ [y]) (t':=s10.toks) hD e ?_ (r.append (.cons r10 .nil)) ?_) nn
    ·simp
    ·simp;omega
 exact codeAny_compStart_list (loop _ rfl) (T.self _ 0 _ _ _ st0 (loop _ rfl))
end
end L2
namespace L2
open PySem PySem.Spec PyProof.Rows
section
variable {X:Cx}
theorem ziy:zdc X (.builtin "isinstance") (fun xs H Q=>∃ x n t b,xs=[x, .ty n]∧TyOf X.K H x t∧PySem.W.kitOne X.K t (.type n)=some b∧Q (.bl b) H):=by
 intro pins s σ H xs us Q I r h
 obtain ⟨x,n,t,b,rfl,ty,e,q⟩:=h
 obtain ⟨u,v,rfl,rx,ry⟩:=vals2 r
 cases ry
 exact zkA I rx ty e fun tk=>⟨.bl b,H,I.tok tk,rfl,q⟩
end
inductive Dt where
 | int (i:Int) | bl (b:Bool) | str (x:Str) | non | tup (ds:List Dt) | lst (ds:List Dt)
def Den (K:PySem.W.Frag) (H:Hp):Nat→V→Dt→Prop
 | _,v, .int j=>v = .int j
 | _,v, .bl b=>v = .bl b
 | _,v, .str x=>v = .str x
 | _,v, .non=>v = .non
 | 0,_, .tup _=>False
 | 0,_, .lst _=>False
 | n + 1,v, .tup ds=>∃ a xs,v = .ref a∧SqT K H a xs∧Paired (Den K H n) xs ds
 | n + 1,v, .lst ds=>∃ a xs,v = .ref a∧SqL K H a xs∧Paired (Den K H n) xs ds
theorem Same.seqT {K:PySem.W.Frag} {H H':Hp} {a:Addr} {xs:List V} (e:Same H H') (h:SqT K H a xs):SqT K H' a xs:=by
 rcases h with (h | ⟨o,h⟩) | h
 ·exact .inl (.inl (e _ _ h))
 ·exact .inl (.inr ⟨o,e _ _ h⟩)
 ·exact .inr h
theorem Den.same {K:PySem.W.Frag} {H H':Hp} (e:Same H H'):∀ {n:Nat} {v:V} {d:Dt},Den K H n v d→Den K H' n v d:=by
 intro n
 induction n with
 | zero=>intro v d h;cases d <;> first | exact h | exact h.elim
 | succ n ih =>
  intro v d h
  cases d with
  | tup ds =>
   obtain ⟨a,xs,h1,h2,h3⟩:=h
   exact ⟨a,xs,h1,e.seqT h2,Paired.mapP h3 fun _ _ q=>ih q⟩
  | lst ds =>
   obtain ⟨a,xs,h1,h2,h3⟩:=h
   exact ⟨a,xs,h1,e.seq h2,Paired.mapP h3 fun _ _ q=>ih q⟩
  | int i=>exact h
  | bl b=>exact h
  | str x=>exact h
  | non=>exact h
theorem Paired.get {α β:Type} {F:α→β→Prop}:∀ {l₁:List α} {l₂:List β} {i:Nat} {a:α},Paired F l₁ l₂→l₁[i]? = some a→∃ b,l₂[i]? = some b∧F a b
 | _,_,_,_, .nil,e=>by simp at e
 | _,_,0,_, .cons r _,e=>by simp at e;subst e;exact ⟨_,rfl,r⟩
 | _,_,i + 1,x, .cons _ t,e=>by
  obtain ⟨u,h1,h2⟩:=Paired.get (i:=i) (a:=x) t (by simpa using e)
  exact ⟨u,by simpa using h1,h2⟩
section
variable {X:Cx} {pins:List (Addr × Obj)} {σ:St} {H:Hp} {s:Shared}
end
section
variable {X:Cx}
end
end L2
namespace L2
open PySem PySem.Spec PyProof.Rows
structure HasFn (K:PySem.W.Frag) (mg:Str→Option Value) (x:Str) (st:Stmt):Prop where
 ex:∃ f fd,mg x=some (.ref f)∧Fun K x x st f fd
theorem zaY {K:PySem.W.Frag} {h:Heap} {mg:Str→Option Value} {x:Str} {st:Stmt} {f:Addr} {oc:Value} {od an:Option Addr} {osl:Array (Option Value)} {kV doc pm cdv ct:Value} (X:K.In h) (G:h.Ns mainGlobals mg)
  (a:PySem.W.nsIn K mainGlobals x=some (some (.ref f))) (l:K.lookup f=some ⟨oc,od, .func (PySem.W.fnOf x x (zau st) (zai st) (zab st) .none kV doc pm an cdv ct),osl⟩)
  (c:PySem.W.codeIn K cdv x=true) (k:PySem.W.keepIn K (.ref f)=true):HasFn K mg x st:=⟨⟨f,_,PySem.W.mg_of X G a,zkK l c k⟩⟩
structure Def (P:Program) (w:World) (K:PySem.W.Frag) (mg:Str→Option Value) (base:Heap) (x:Str) (k:Nat) (ps:List Str) (sp:Sp):Prop where
 ex:∃ f fd,FnOk P w K mg base CX0 k f fd ps sp∧mg x=some (.ref f)∧PySem.W.keepIn K (.ref f)=true∧Binds K fd ps []
theorem zp3 {X:Cx} {k:Nat} {x:Str} {ps:List Str} {sp:Sp} {e:Expr} {es:List Expr} {t:TA} {p pos:Pos} (D:Def X.prog X.w X.K X.mg X.base x k ps sp) (hr:Room k X.A) (hg:Gl X x) (ha:PA X (e :: es) t)
  (hdb:(x == ("__debug__" : Str))=false:=by decide) (he:starEach (e :: es) X.env=(false,eval e X.env) :: starEach es X.env:=by rfl) (hpl:(backTo pos (starEach es X.env)).any (·.1)=false:=by rfl) :
  PE X (.Call (.Name x p) (e :: es) [] pos) (zm6 sp [] E0 t):=by
 obtain ⟨f,fd,F,hm,hk,hb⟩:=D.ex
 exact znZ F hr hg hm hk hb .nil zqG ha hdb he hpl
theorem Def.of {P:Program} {w:World} {K:PySem.W.Frag} {mg:Str→Option Value} {base:Heap} {x:Str} {st:Stmt} {N ps:List Str} {k:Nat} {sp:Sp} (h:HasFn K mg x st) (S:zat N ps (zab st))
  (bind:∀ (kV doc pm:Value) (an:Option Addr) (cdv ct:Value) (us:List Value),us.length=ps.length→bindArgs (PySem.W.fnOf x x (zau st) (zai st) (zab st) .none kV doc pm an cdv ct) ⟨us,[]⟩ = pure (ps.zip us))
  (len:∀ vs H Q E,sp vs H Q E→vs.length=ps.length)
  (hbody:∀ (f:Addr) (cdv:Value) (A:Around) (outer:List Env) (s:Shared) (H:Hp) (vs:List V) (Q:VK) (E:XK),Room k (A.deeper (envOfC x (zab st) s.heap.objs.size f cdv))→sp vs H Q E →
   ∃ t,PSs (cxOf CX0 P w K mg base N x (zab st) f cdv A outer s H E).nox (zai st) t∧t { nx:=fun _ H'=>Q .non H',rt:=Q } (start N vs) H):Def P w K mg base x (k + 1) ps sp:=by
 obtain ⟨f,fd,hm,F⟩:=h.ex
 exact ⟨f,fd,F.ok S len (hbody f),hm,F.kp,F.binds bind⟩
theorem Same.new {H:Hp} {p:Addr} {o:HO} (h:H p=none):Same H (upd H p o):=fun b u e=>by rw [zaj (zaB e h)];exact e
def Kept (l:Addr) (H H':Hp):Prop:=∀ b o,b ≠ l→H b=some o→H' b=some o
theorem Kept.upd (l:Addr) (H:Hp) (o:HO):Kept l H (upd H l o):=fun b u hb e=>by rw [zaj hb];exact e
theorem Same.kept {l:Addr} {H H':Hp} (h:Same H H'):Kept l H H':=fun b o _ e=>h b o e
theorem Kept.trans {l:Addr} {H H1 H2:Hp} (a:Kept l H H1) (b:Kept l H1 H2):Kept l H H2:=fun c o hc e=>b c o hc (a c o hc e)
theorem Kept.seqT {K:PySem.W.Frag} {l:Addr} {H H':Hp} {a:Addr} {xs ys:List V} (e:Kept l H H') (hl:H l=some (.lst ys)) (h:SqT K H a xs):SqT K H' a xs:=by
 rcases h with (h | ⟨o,h⟩) | h
 ·exact .inl (.inl (e _ _ (zpf h hl (by intro z;cases z)) h))
 ·exact .inl (.inr ⟨o,e _ _ (zpf h hl (by intro z;cases z)) h⟩)
 ·exact .inr h
def IsTI (K:PySem.W.Frag) (H:Hp) (v:V) (ns:List Int):Prop:=∃ p,v = .ref p∧SqT K H p (ns.map V.int)
theorem IsTI.same {K:PySem.W.Frag} {H H':Hp} {v:V} {ns:List Int} (e:Same H H') (h:IsTI K H v ns):IsTI K H' v ns:=let ⟨p,a,b⟩:=h; ⟨p,a,e.seqT b⟩
theorem IsTI.kept {K:PySem.W.Frag} {l:Addr} {H H':Hp} {v:V} {ns:List Int} {ys:List V} (e:Kept l H H') (hl:H l=some (.lst ys)) (h:IsTI K H v ns):IsTI K H' v ns:=let ⟨p,a,b⟩:=h; ⟨p,a,e.seqT hl b⟩
def Rows (K:PySem.W.Frag) (H:Hp) (xs:List V) (rs:List (List Int)):Prop:=Paired (IsTI K H) xs rs
theorem Rows.same {K:PySem.W.Frag} {H H':Hp} {xs:List V} {rs:List (List Int)} (e:Same H H') (h:Rows K H xs rs):Rows K H' xs rs:=Paired.mapP h fun _ _ q=>q.same e
theorem Rows.kept {K:PySem.W.Frag} {l:Addr} {H H':Hp} {xs ys:List V} {rs:List (List Int)} (e:Kept l H H') (hl:H l=some (.lst ys)) (h:Rows K H xs rs):Rows K H' xs rs:=Paired.mapP h fun _ _ q=>q.kept e hl
end L2
namespace L2
open PySem PySem.Spec PyProof.Rows
def TbAt (h₀ h:Heap) (H:Hp) (x:Addr) (vs:Array Value):Prop :=
 ∃ T oT ts,vs[1]? = some (.ref T)∧T ≠ x∧h₀.get? T=none∧H T=none∧h.get? T=some oT∧oT.data = .fields ts∧3 < ts.size
def ExAt (h₀ h:Heap) (H:Hp) (x:Addr) (cls:Value) (dx:Option Addr) (tb:Bool):Prop :=
 h₀.get? x=none∧H x=none∧∃ oe vs,h.get? x=some oe∧oe.cls=cls∧oe.dict=dx∧oe.data = .fields vs∧1 < vs.size∧((tb=false∧vs[1]? = some .none)∨TbAt h₀ h H x vs)
theorem ExAt.any {h₀ h:Heap} {H:Hp} {x:Addr} {cls:Value} {dx:Option Addr} {tb:Bool} (e:ExAt h₀ h H x cls dx tb):ExAt h₀ h H x cls dx false:=by
 obtain ⟨a,b,oe,vs,c1,c2,c3,c4,c5,c6⟩:=e
 exact ⟨a,b,oe,vs,c1,c2,c3,c4,c5,c6.imp (fun z=>⟨rfl,z.2⟩) id⟩
structure Top1 (X:Cx):Prop where
 stk:X.stack=X.env :: X.outer
 frm:X.env.frame=some X.env.locals
 pn:X.pn=[]
theorem Top1.mem {X:Cx} (t:Top1 X) {b:Addr}:b ∈ frs X.stack↔b=X.env.locals∨b ∈ X.fs:=by
 rw [t.stk]
 unfold frs
 rw [List.filterMap_cons,t.frm]
 exact List.mem_cons
section
variable {X:Cx} {σ:St} {H:Hp} {s:Shared}
theorem Inv.recs {h':Heap} {ch:List Addr} (I:Inv X [] σ H s) (t:Top1 X) (hch:∀ b ∈ ch,X.s₀.heap.get? b=none∧H b=none∧∃ o vs,s.heap.get? b=some o∧o.data = .fields vs)
  (keep:∀ b o,b ∉ frs X.stack→b ∉ ch→s.heap.get? b=some o→h'.get? b=some o) (slot:∀ b o,b ∈ frs X.stack→s.heap.get? b=some o→∃ sl,h'.get? b=some { o with slots:=sl }) :
  Inv X [] σ H { s with heap:=h' }:=by
 have ncell:∀ c v,s.heap.IsCell c v→c ∉ ch:=fun c v ⟨o,ho,hd⟩ hc=>by
  obtain ⟨_,_,o',vs,e,d⟩:=hch c hc
  rw [ho] at e;cases e
  rw [hd] at d;cases d
 have any:∀ b o,b ∉ ch→s.heap.get? b=some o→∃ sl,h'.get? b=some { o with slots:=sl }:=fun b o hc e=>by
  by_cases hb:b ∈ frs X.stack
  ·exact slot b o hb e
  ·exact ⟨o.slots,keep b o hb hc e⟩
 have cellK:∀ c v,s.heap.IsCell c v→h'.IsCell c v:=fun c v z=>by
  obtain ⟨o,ho,hd⟩:=id z
  obtain ⟨sl,e⟩:=any c o (ncell c v z) ho
  exact ⟨_,e,hd⟩
 have old:∀ b o,X.s₀.heap.get? b=some o→b ≠ X.env.locals∧b ∉ ch:=fun b o e =>
  ⟨Nat.ne_of_lt (Nat.lt_of_lt_of_le (Heap.lt_size e) I.ok.above),fun hc=>by rw [(hch b hc).1] at e;cases e⟩
 have nfr:∀ b,b ≠ X.env.locals→b ∉ X.fs→b ∉ frs X.stack:=fun b h1 h2 z=>(t.mem.mp z).elim h1 h2
 refine ⟨I.ok,I.os,I.bare,⟨fun b o e n hb hx=>?_,fun b o e n hb hx=>?_,I.base.free,fun b o e hx=>?_,I.base.tups,I.base.frzs,I.base.tbls⟩,?_,fun x c e=>?_,I.free,I.freeC,fun p hp=>?_,fun b u e=>?_,I.len⟩
 ·exact keep b o (nfr b (old b o e).1 hb) (old b o e).2 (I.base.keep b o e n hb hx)
 ·obtain ⟨sl,e1⟩:=I.base.slot b o e n hb hx
  obtain ⟨sl',e2⟩:=any b _ (old b o e).2 e1
  exact ⟨sl',e2⟩
 ·obtain ⟨o',e1⟩:=I.base.there b o e hx
  obtain ⟨sl,e2⟩:=any b o' (old b o e).2 e1
  exact ⟨_,e2⟩
 ·obtain ⟨m,hn,hl⟩:=I.loc
  obtain ⟨o,es,ep,ho,hd,r⟩:=id hn
  have hLc:X.env.locals ∉ ch:=fun hc=>by
   obtain ⟨_,_,o',vs,e,d⟩:=hch _ hc
   rw [ho] at e;cases e
   rw [hd] at d;cases d
  obtain ⟨sl,e⟩:=any _ o hLc ho
  refine ⟨m,⟨_,es,ep,e,hd,r⟩,fun i x v e1 e2 e3=>?_⟩
  obtain ⟨u,ru,l⟩:=hl i x v e1 e2 e3
  refine ⟨u,ru,?_⟩
  rcases l with l | ⟨k,c,ec,z⟩
  ·exact .inl l
  ·exact .inr ⟨k,c,ec,cellK c _ z⟩
 ·obtain ⟨v,z⟩:=I.cell x c e
  exact ⟨v,cellK c v z⟩
 ·rw [t.pn] at hp
  simp at hp
 ·refine (I.hok b u e).stay (fun c v hc q=>keep c v ?_ ?_ q) (fun _ q=>q) fun _ _ q=>q
  ·intro z
   have f:=I.zh3 c z
   rcases hc with y | y
   ·rw [y,e] at f;cases f
   ·rw [y] at f;cases f
  ·intro z
   have f:=(hch c z).2.1
   rcases hc with y | y
   ·rw [y,e] at f;cases f
   ·rw [y] at f;cases f
variable {M:Model} {E:Value→Shared→Prop} {x:Addr} {cls:Value} {dx:Option Addr}
theorem ExAt.zl7 (I:Inv X [] σ H s) {b:Addr} {o:Obj} {vs:Array Value} (e:s.heap.get? b=some o) (d:o.data = .fields vs):b ∉ frs X.stack:=fun hm=>by
 obtain ⟨_,o',ho,hnf⟩:=I.stack.mem hm
 rw [e] at ho;cases ho
 exact hnf vs d
theorem ziS (I:Inv X [] σ H s) (t:Top1 X) {oe:Obj} {vs:Array Value} {head:Value} {had:Bool} {Q:Unit→Shared→Prop} (hx0:X.s₀.heap.get? x=none) (hxH:H x=none) (he:s.heap.get? x=some oe) (hd:oe.data = .fields vs) (hsz:1 < vs.size)
  (q:∀ h',Inv X [] σ H { s with heap:=h' }→ExAt X.s₀.heap h' H x oe.cls oe.dict true→Q () { s with heap:=h' }) :
  wpAny M X.A (do let a ← frameOf X.env;let pl ← entryPlaceOf X.env.locals had;let b ← EntryCells.newEntry head a .none (rawInt X.env.locals) .none pl;setField (.ref x) 1 b) Q E s:=by
 have hfr:X.A.frames=some (X.env :: X.outer):=by rw [← t.stk];exact I.ok.frames
 have hl:s.heap.FunFrames X.base (X.env :: X.outer):=by rw [← t.stk];exact I.stack
 have hne:x ∉ frs X.stack:=ExAt.zl7 I he hd
 have efr:(X.env :: X.outer).filterMap (·.frame)=frs X.stack:=by rw [t.stk];rfl
 refine wpAny_bind (wpAny_frameOf_fun hfr hl t.frm fun h1 s1=>wpAny_bind (wpAny_entryPlaceOf fun pl hpl=>?_))
 rw [efr] at s1
 unfold EntryCells.newEntry
 unfold newFields
 refine wpAny_bind (wpAny_newObj_type ?_ (hpl.sizeOk5 _ _ _ _ _))
 have he1:h1.get? x=some oe:=(s1.2.1 x hne).trans he
 generalize hto:({ cls := .type "traceback",dict:=none,data := .fields ([head, .ref X.env.locals, .none,rawInt X.env.locals, .none] ++ (if pl.isEmpty then List.replicate 6 Value.none else pl)).toArray }:Obj)=to
 have hte:∃ ts,to.data = .fields ts∧3 < ts.size:=⟨_,by rw [← hto],by simp only [List.size_toArray,List.length_append,List.length_cons,List.length_nil];omega⟩
 have htf:to.isFreed=false:=by rw [← hto];rfl
 have he2:(h1.push to).get? x=some oe:=Heap.get?_push_of_some _ he1
 have hTx:h1.objs.size ≠ x:=Nat.ne_of_gt (Heap.lt_size he1)
 refine wpAny_setField he2 hd hsz ?_
 have hd3:=Obj.data_mapFields hd (·.setIfInBounds 1 (Value.ref h1.objs.size))
 have he3:=Heap.get?_update_self (Obj.mapFields (·.setIfInBounds 1 (Value.ref h1.objs.size))) he2 (Obj.isFreed_of_fields hd3)
 have hT3:=(Heap.get?_update_other (h1.push to) (Obj.mapFields (·.setIfInBounds 1 (Value.ref h1.objs.size))) (Ne.symm hTx)).trans (Heap.get?_push_size h1 htf)
 have kp:∀ b o,b ≠ x→h1.get? b=some o→((h1.push to).update x (Obj.mapFields (·.setIfInBounds 1 (Value.ref h1.objs.size)))).get? b=some o:=fun b o hb e =>
  (Heap.get?_update_other _ _ (Ne.symm hb)).trans (Heap.get?_push_of_some _ e)
 have hT0:X.s₀.heap.get? h1.objs.size=none:=by
  cases e:X.s₀.heap.get? h1.objs.size with
  | none=>rfl
  | some o =>
   have h2:=Nat.lt_of_lt_of_le (Heap.lt_size e) I.sz
   rw [s1.1] at h2
   exact absurd h2 (Nat.lt_irrefl _)
 have hTH:H h1.objs.size=none:=by rw [s1.1];exact I.hok.fresh (Nat.le_refl _)
 refine q _ (I.recs t (ch:=[x]) (fun b hb=>?_) (fun b o hb hc e=>?_) fun b o hb e=>?_) ⟨hx0,hxH,_,_,he3,Obj.cls_mapFields _ _,?_,hd3,by simpa using hsz, .inr ⟨h1.objs.size,to,?_⟩⟩
 ·rw [List.mem_singleton.mp hb]
  exact ⟨hx0,hxH,oe,vs,he,hd⟩
 ·exact kp b o (fun z=>hc (by rw [z];exact List.mem_singleton.mpr rfl)) ((s1.2.1 b hb).trans e)
 ·obtain ⟨sl,e1⟩:=s1.2.2 b o e
  exact ⟨sl,kp b _ (fun z=>hne (z ▸ hb)) e1⟩
 ·obtain ⟨c,d,dt,sl⟩:=oe
  cases dt <;> rfl
 ·obtain ⟨ts,d1,d2⟩:=hte
  exact ⟨ts,by simp [hsz],hTx,hT0,hTH,hT3,d1,d2⟩
theorem ziv (I:Inv X [] σ H s) (t:Top1 X) {tb:Bool} {Q:Unit→Shared→Prop} (e:ExAt X.s₀.heap s.heap H x cls dx tb)
  (q:∀ h',Inv X [] σ H { s with heap:=h' }→ExAt X.s₀.heap h' H x cls dx true→Q () { s with heap:=h' }):wpAny M X.A (noteFrame (.ref x) X.env) Q E s:=by
 obtain ⟨hx0,hxH,oe,vs,he,rfl,rfl,hd,hsz,tb'⟩:=id e
 unfold noteFrame
 simp only [t.frm]
 rcases tb' with ⟨_,h1⟩ | ⟨T,oT,ts,h1,hTx,hT0,hTH,hT,hdT,h3⟩
 ·refine wpAny_bind (wpAny_field he hd h1 ?_)
  rw [if_neg (by decide)]
  exact ziS I t hx0 hxH he hd hsz q
 ·refine wpAny_bind (wpAny_field he hd h1 ?_)
  rw [if_pos (show (Value.ref T != Value.none)=true from by simp)]
  obtain ⟨v3,hv3⟩ : ∃ v3,ts[3]? = some v3:=⟨ts[3],Array.getElem?_eq_getElem h3⟩
  refine wpAny_bind (wpAny_field hT hdT hv3 ?_)
  by_cases hb:(v3 == rawInt X.env.locals)=true
  ·rw [if_pos hb]
   exact wpAny_pure (q s.heap I ⟨hx0,hxH,oe,vs,he,rfl,rfl,hd,hsz, .inr ⟨T,oT,ts,h1,hTx,hT0,hTH,hT,hdT,h3⟩⟩)
  ·rw [if_neg hb]
   refine wpAny_bind (wpAny_setField hT hdT h3 ?_)
   have oth:∀ b,b ≠ T→(s.heap.update T (Obj.mapFields (·.setIfInBounds 3 Value.none))).get? b=s.heap.get? b:=fun b hb=>Heap.get?_update_other _ _ (Ne.symm hb)
   have hTfr:T ∉ frs X.stack:=ExAt.zl7 I hT hdT
   have I1:Inv X [] σ H { s with heap:=s.heap.update T (Obj.mapFields (·.setIfInBounds 3 Value.none)) }:=I.recs t (ch:=[T]) (fun b hb=>by
    rw [List.mem_singleton.mp hb]
    exact ⟨hT0,hTH,oT,ts,hT,hdT⟩) (fun b o _ hc e=>(oth b (fun z=>hc (by rw [z];exact List.mem_singleton.mpr rfl))).trans e) fun b o hb e=>⟨o.slots,(oth b (fun z=>hTfr (z ▸ hb))).trans e⟩
   exact ziS I1 t hx0 hxH ((oth x (Ne.symm hTx)).trans he) hd hsz q
theorem zd3 {A:Around} (I:Inv X [] σ H s) (t:Top1 X) {fo:Option Addr} {Q:Unit→Shared→Prop} (e:ExAt X.s₀.heap s.heap H x cls dx true)
  (q:∀ h',Inv X [] σ H { s with heap:=h' }→ExAt X.s₀.heap h' H x cls dx true→Q () { s with heap:=h' }):wpAny M A (setFlight (.ref x) fo) Q E s:=by
 obtain ⟨hx0,hxH,oe,vs,he,rfl,rfl,hd,hsz,tb'⟩:=id e
 rcases tb' with ⟨z,_⟩ | ⟨T,oT,ts,h1,hTx,hT0,hTH,hT,hdT,h3⟩
 ·cases z
 unfold setFlight
 refine wpAny_bind (wpAny_field he hd h1 ?_)
 rw [if_pos (show (Value.ref T != Value.none)=true from by simp)]
 refine wpAny_setField hT hdT h3 ?_
 generalize (fo.elim Value.none fun f=>rawInt f)=fv
 have oth:∀ b,b ≠ T→(s.heap.update T (Obj.mapFields (·.setIfInBounds 3 fv))).get? b=s.heap.get? b:=fun b hb=>Heap.get?_update_other _ _ (Ne.symm hb)
 have hTfr:T ∉ frs X.stack:=ExAt.zl7 I hT hdT
 have hd3:=Obj.data_mapFields hdT (·.setIfInBounds 3 fv)
 refine q _ (I.recs t (ch:=[T]) (fun b hb=>?_) (fun b o _ hc e=>(oth b (fun z=>hc (by rw [z];exact List.mem_singleton.mpr rfl))).trans e) fun b o hb e=>⟨o.slots,(oth b (fun z=>hTfr (z ▸ hb))).trans e⟩)
  ⟨hx0,hxH,oe,vs,(oth x (Ne.symm hTx)).trans he,rfl,rfl,hd,hsz, .inr ⟨T,_,_,h1,hTx,hT0,hTH,Heap.get?_update_self _ hT (Obj.isFreed_of_fields hd3),hd3,by simpa using h3⟩⟩
 rw [List.mem_singleton.mp hb]
 exact ⟨hT0,hTH,oT,ts,hT,hdT⟩
end
abbrev WX:=St→Value→Option Addr→Hp→Prop
def XE (X:Cx) (W:WX):Value→Shared→Prop:=fun e s'=>∃ σ H' x cls dx,e = .ref x∧Inv X [] σ H' s'∧ExAt X.s₀.heap s'.heap H' x cls dx false∧W σ cls dx H'
section
variable {X:Cx}
theorem zoT (t:Top1 X) {W:WX}:PassesOwn (model X.prog X.w) X.A X.env (XE X W):=by
 rintro e s' ⟨σ,H',x,cls,dx,rfl,I,ex,w⟩
 unfold notedBy
 refine ziv I t ex fun h1 I1 e1=>?_
 unfold cameBackBy
 obtain ⟨hx0,hxH,oe,vs,he,hc,hdx,hd,hsz,tb'⟩:=id e1
 rcases tb' with ⟨z,_⟩ | ⟨T,oT,ts,h1',hTx,hT0,hTH,hT,hdT,h3⟩
 ·cases z
 refine wpAny_bind (wpAny_field he hd h1' ?_)
 rw [if_neg (show ¬ ((Value.ref T == Value.none)=true) from by simp)]
 exact zd3 I1 t e1 fun h2 I2 e2=>⟨σ,H',x,cls,dx,rfl,I2,e2.any,w⟩
def CXE (P:Program) (w:World):CXT:=fun outer H s E e s'=>∃ x cls dx H',e = .ref x∧s'.os=s.os∧AllBare s'.gens∧Un (frs outer) [] H H' s.heap s'.heap∧HOk P w H' s'.heap∧ExAt s.heap s'.heap H' x cls dx true∧E cls dx H'
end
end L2
namespace L2
open PySem PySem.Spec PyProof.Rows
structure zfT (X:Cx) (W:WX):Prop where
 top:Top1 X
 ex:X.ex=[]
 to:∀ e s',XE X W e s'→X.xe e s'
 passes:PassesOwn (model X.prog X.w) X.A X.env X.xe
theorem zfT.of {X:Cx} (t:Top1 X) (hx:X.ex=[]) (W:WX):zfT (X.wish (XE X W)) W where
 top:=⟨t.stk,t.frm,t.pn⟩
 ex:=hx
 to:=fun e s' ⟨σ,H',x,cls,dx,a,I,b,c⟩=>⟨σ,H',x,cls,dx,a,I.zcz,b,c⟩
 passes:=zoT t
theorem Inv.zlG {X:Cx} {pins:List (Addr × Obj)} {σ:St} {H:Hp} {s:Shared} (I:Inv X pins σ H s):Inv X [] σ H s:=I.zim fun p hp=>absurd hp (by simp)
theorem Inv.first {X:Cx} {pins:List (Addr × Obj)} {σ:St} {H:Hp} {s:Shared} (I:Inv X pins σ H s) (hx:X.ex=[]) {b:Addr} (h:s.heap.get? b=none):X.s₀.heap.get? b=none:=by
 cases e:X.s₀.heap.get? b with
 | none=>rfl
 | some o =>
  obtain ⟨o',e'⟩:=I.base.there b o e (by rw [hx];simp)
  rw [h] at e';cases e'
theorem ExAt.first {X:Cx} {pins:List (Addr × Obj)} {σ:St} {H H':Hp} {s:Shared} {h':Heap} {x:Addr} {cls:Value} {dx:Option Addr} {tb:Bool} (I:Inv X pins σ H s) (hx:X.ex=[]) (e:ExAt s.heap h' H' x cls dx tb) :
  ExAt X.s₀.heap h' H' x cls dx tb:=by
 obtain ⟨a,b,oe,vs,c1,c2,c3,c4,c5,c6⟩:=e
 refine ⟨I.first hx a,b,oe,vs,c1,c2,c3,c4,c5,c6.imp id fun ⟨T,oT,ts,d1,d2,d3,d4,d5,d6,d7⟩=>⟨T,oT,ts,d1,d2,I.first hx d3,d4,d5,d6,d7⟩⟩
theorem zcl.at {P:Program} {w:World} {H:Hp} {h:Heap} {a:Addr} {o:HO} (x:zcl P w H h a o):∃ ob,h.get? a=some ob:=by
 cases o with
 | lst xs=>obtain ⟨_,_,_,_,e⟩:=x;exact ⟨_,e⟩
 | tup xs=>obtain ⟨_,_,_,_,e,_⟩:=x;exact ⟨_,e⟩
 | dK kvs=>obtain ⟨_,_,_,_,o,_,_,e,_⟩:=x;exact ⟨_,e⟩
 | dT kvs=>obtain ⟨_,_,_,_,o,_,_,e,_⟩:=x;exact ⟨_,e⟩
 | set S n=>obtain ⟨o,_,_,_,e,_⟩:=x;exact ⟨_,e⟩
 | ins C dx fs=>obtain ⟨_,_,_,e,_⟩:=x;exact ⟨_,e⟩
 | own y=>exact x
 | xd fs=>obtain ⟨_,⟨_,_,_,e,_⟩,_⟩:=x;exact ⟨_,e⟩
 | rng lo hi=>obtain ⟨_,_,_,e⟩:=x;exact ⟨_,e⟩
 | frz ob u=>obtain ⟨e,_⟩:=x;exact ⟨_,e⟩
 | tbl ps=>exact ⟨_,show h.get? a=some _ from x⟩
 | met f y=>exact ⟨_,show h.get? a=some _ from x⟩
 | ext φ=>obtain ⟨_,e,_⟩:=x;exact e
section
variable {P:Program} {w:World} {K:PySem.W.Frag} {mg:Str→Option Value} {base:Heap}
abbrev cxX (P:Program) (w:World) (K:PySem.W.Frag) (mg:Str→Option Value) (base:Heap) (N:List Str) (qual:Str) (scope:Scope) (f:Addr) (cd:Value) (A:Around) (outer:List Env) (s:Shared) (H:Hp) (E:XK):Cx :=
 (cxOf (CXE P w) P w K mg base N qual scope f cd A outer s H E).wish (XE (cxOf (CXE P w) P w K mg base N qual scope f cd A outer s H E) fun _=>E)
theorem zeX {CX:CXT} {N:List Str} {qual:Str} {scope:Scope} {f:Addr} {cd:Value} {A:Around} {outer:List Env} {s:Shared} {H:Hp} {E:XK}:Top1 (cxOf CX P w K mg base N qual scope f cd A outer s H E):=⟨rfl,rfl,rfl⟩
theorem zap {N:List Str} {qual:Str} {scope:Scope} {f:Addr} {cd:Value} {A:Around} {outer:List Env} {s:Shared} {H:Hp} {E:XK}:zfT (cxX P w K mg base N qual scope f cd A outer s H E) (fun _=>E):=zfT.of zeX rfl _
theorem zln {N:List Str} {qual:Str} {scope:Scope} {f:Addr} {cd:Value} {A:Around} {outer:List Env} {s:Shared} {H:Hp} {E:XK} {st:List Stmt} {t:TS} (h:PSs (cxX P w K mg base N qual scope f cd A outer s H E) st t) :
  PSs (cxOf (CXE P w) P w K mg base N qual scope f cd A outer s H E) st t:=by
 intro pins s1 σ H1 D I hw
 refine wpAny_mono (h pins s1 σ H1 D (I.wish _) hw) (fun _ _ q=>q.zcz) fun e s' hx=>?_
 obtain ⟨σ',H',x,cls,dx,rfl,I',ex,q⟩:=hx
 show wpAny _ _ (leaving _ _) _ _ _
 unfold leaving
 refine wpAny_bind (ziv (E:=fun e' s''=>CXE P w outer H s E e' s'') I' zeX ex fun h1 I1 e1=>?_)
 refine zd3 I1 zeX e1 fun h2 I2 e2=>?_
 exact ⟨x,cls,dx,H',rfl,I2.os,I2.bare,I2.base,I2.hok,e2,q⟩
structure DefX (P:Program) (w:World) (K:PySem.W.Frag) (mg:Str→Option Value) (base:Heap) (x:Str) (k:Nat) (ps:List Str) (sp:Sp):Prop where
 ex:∃ f fd,FnOk P w K mg base (CXE P w) k f fd ps sp∧mg x=some (.ref f)∧PySem.W.keepIn K (.ref f)=true∧Binds K fd ps []
theorem DefX.of {x:Str} {st:Stmt} {N ps:List Str} {k:Nat} {sp:Sp} (h:HasFn K mg x st) (S:zat N ps (zab st))
  (bind:∀ (kV doc pm:Value) (an:Option Addr) (cdv ct:Value) (us:List Value),us.length=ps.length→bindArgs (PySem.W.fnOf x x (zau st) (zai st) (zab st) .none kV doc pm an cdv ct) ⟨us,[]⟩ = pure (ps.zip us))
  (len:∀ vs H Q E,sp vs H Q E→vs.length=ps.length)
  (hbody:∀ (f:Addr) (cdv:Value) (A:Around) (outer:List Env) (s:Shared) (H:Hp) (vs:List V) (Q:VK) (E:XK),Room k (A.deeper (envOfC x (zab st) s.heap.objs.size f cdv))→sp vs H Q E →
   ∃ t,PSs (cxX P w K mg base N x (zab st) f cdv A outer s H E) (zai st) t∧t { nx:=fun _ H'=>Q .non H',rt:=Q } (start N vs) H):DefX P w K mg base x (k + 1) ps sp:=by
 obtain ⟨f,fd,hm,F⟩:=h.ex
 refine ⟨f,fd,?_,hm,F.kp,F.binds bind⟩
 obtain ⟨oc,od,kV,doc,pm,an,cdv,ct,osl,rfl,lk,hcd⟩:=F.ex
 refine zlU lk hcd S len fun A outer s H vs Q E hr hsp=>?_
 obtain ⟨t,h,q⟩:=hbody f cdv A outer s H vs Q E hr hsp
 exact ⟨t,zln h,q⟩
end
section
variable {X:Cx} {W:WX} {x:Str} {p pos np cpos:Pos} {e:Expr} {es:List Expr} {t:TA}
def zo7 (sp:Sp) (W:WX) (t:TA):TE:=fun σ H Q=>t σ H fun vs H1=>sp vs H1 Q fun cls dx H'=>W σ cls dx H'
theorem znh {k:Nat} {ps:List Str} {sp:Sp} (T:zfT X W) (D:DefX X.prog X.w X.K X.mg X.base x k ps sp) (hr:Room k X.A) (hg:Gl X x) (ha:PA X (e :: es) t)
  (hdb:(x == ("__debug__" : Str))=false:=by decide) (he:starEach (e :: es) X.env=(false,eval e X.env) :: starEach es X.env:=by rfl) (hpl:(backTo pos (starEach es X.env)).any (·.1)=false:=by rfl) :
  PE X (.Call (.Name x p) (e :: es) [] pos) (zo7 sp W t):=by
 obtain ⟨f,fd,F,hm,hk,hb⟩:=D.ex
 intro pins s σ H Q I h
 refine wpAny_Call_Name_kw (zdN I hg hm ?_ hdb)
 refine PySem.W.callWith_K (h₀:=X.base) I.ok.mod.kin hk (thn (ha pos pins s σ H _ I h) fun us s1 ⟨vs,H1,I1,r,q⟩=>⟨I1.kIn,?_⟩) he hpl
 have hl:us.length=ps.length:=by rw [← r.length];exact F.len _ _ _ _ q
 have hb':=hb s1 us I1.kIn (by rw [List.append_nil];exact hl)
 rw [List.append_nil] at hb'
 refine wpAny_call (codeAny_mono (F.run X.A X.stack s1 H1 ⟨us,[]⟩ us vs Q _ hr I1.env0 hb' r q) fun r s' hq=>?_)
 cases r with
 | error ev =>
  obtain ⟨a,cls,dx,H',rfl,os,bare,un,hok,ex,q'⟩:=hq
  have I2:=(I1.zod os un hok bare (fun b z=>absurd z (by simp))).zlG
  exact T.to _ _ ⟨σ,H',a,cls,dx,rfl,I2,(ex.first I1 T.ex).any,q'⟩
 | ok fl =>
  cases fl with
  | ret u=>exact I1.after hq
  | next=>exact False.elim hq
  | brk=>exact False.elim hq
  | cont=>exact False.elim hq
abbrev bmVE:List Value:=[.type "ValueError", .type "Exception", .type "BaseException", .type "object"]
structure OwnE (K:PySem.W.Frag) (C:Addr):Prop where
 inK:PySem.W.excIn K C bmVE "ValueError.__new__" = true
theorem OwnE.obj {K:PySem.W.Frag} {C:Addr} (O:OwnE K C) {h:Heap} (X:K.In h):∃ bm N nm q bs hdct sn sub ab col dd k0 k1 k2 k3 k5 mN,h.get? C=some (excClassObj nm q C N bs bm hdct sn sub ab col dd k0 k1 k2 k3 k5 "ValueError.__new__")∧h.Ns N mN∧mN "__init__" = none∧OwnTail h bmVE bm:=by
 have q:=O.inK
 unfold PySem.W.excIn at q
 split at q
 ·rename_i dd cd sl ho
  split at q
  ·rename_i C' bm k0 k1 k2 k3 n k5 hm hs
   simp only [Bool.and_eq_true,beq_iff_eq,Bool.not_eq_true'] at q
   obtain ⟨⟨⟨⟨⟨rfl,rfl⟩,hdel⟩,ht⟩,hok⟩,hni⟩:=q
   obtain ⟨nm,bs,mro,ns,qn,hd,sn,sub,ab,col,del⟩:=cd
   dsimp only at hm hdel hok hni
   subst hm hdel
   have hsl:sl = #[k0,k1,k2,k3,some (.builtin "ValueError.__new__"),k5]:=by
    obtain ⟨l⟩:=sl
    simp only at hs
    rw [hs]
   subst hsl
   exact ⟨bm,ns,nm,qn,bs,hd,sn,sub,ab,col,dd,k0,k1,k2,k3,k5,_,X _ _ ho, .of_isNs (PySem.W.isNs_of_in X hok),PySem.W.nsMap_none_of_in X hok hni,PySem.W.tail_of_in X ht⟩
  ·cases q
 ·cases q
end
end L2
namespace L2
open PySem PySem.Spec PyProof.Rows
structure XC (K:PySem.W.Frag) (C:Addr):Prop where
 ob:∃ nm q N bs bm hdct sn sub ab col dd k0 k1 k2 k3 k5,K.lookup C=some (excClassObj nm q C N bs bm hdct sn sub ab col dd k0 k1 k2 k3 k5 "ValueError.__new__")
 ga:PySem.W.findIn K (.ref C) "__getattribute__" = some (some (.builtin "BaseException.__getattribute__"))
 gt:PySem.W.findIn K (.ref C) "__getattr__" = some none
 cl:PySem.W.findIn K (.ref C) "__class__" = some (some (.builtin "object.__class__"))
 be:PySem.W.subIn K (.ref C) (.type "BaseException")=some true
 oj:PySem.W.subIn K (.ref C) (.type "object")=some true
section
variable {prog:Program} {w:World} {A:Around} {E:Value→Shared→Prop} {h:Heap} {g:Array GenState} {d:Drawn} {t:Nat} {os:OsState} {a:Addr} {o:Obj} {K:PySem.W.Frag} {C:Addr}
theorem zpI {R:Result→Shared→Prop} (c:XC K C) (X:K.In h) (hx:h.get? a=some o) (hc:o.cls = .ref C) (hq:R (.ok (.ret (.ref C))) ⟨h,g,d,t,os⟩) :
  codeAny (model prog w) A (.call (.builtin "getset_descriptor.__get__") ⟨[.builtin "object.__class__", .ref a, .ref C],[]⟩) R ⟨h,g,d,t,os⟩:=by
 have hT5:(⟨h,g,d,t,os⟩ : Shared).TypeIs (.builtin "object.__class__") "getset_descriptor":=F.typeOf_object_class
 have L:PySem.W.Looks (model prog w) h (isSubtype (.ref C) (.type (".".intercalate ("object.__class__".cutAt '.').dropLast))) true:=by
  rw [F.owner_object_class]
  exact PySem.W.looks_subIn X c.oj
 refine codeAny_call_builtin F.slot_gs_get.plain F.entry_gs_get (F.slot_gs_get.check _ _ _ _ _ _ _ _ hT5 (F.args_gs_get _ _ _) ?_)
 repeat (any_goals (first | assumption | (with_reducible refine wpAny_loadPart_at hx ?_;rw [hc]) | with_reducible refine L.at ?_ | wp_step))
 refine ⟨Code.quiet_builtin _ (by decide +kernel),codeAny_builtin F.entry_object_class ?_⟩
 repeat (any_goals (first | assumption | (with_reducible refine wpAny_loadPart_at hx ?_;rw [hc]) | wp_step))
theorem zlV {tk:Tok} {Q:Fin→Shared→Prop} (c:XC K C) (X:K.In h) (hx:h.get? a=some o) (hc:o.cls = .ref C) (hq:Q (.done (.ret (.ref C))) ⟨h,g,d,t,os⟩) :
  wpAny (model prog w) A (Builtin.«object.__getattribute__» ⟨[.ref a, .str "__class__" tk],[]⟩) Q E ⟨h,g,d,t,os⟩:=by
 have hT5:(⟨h,g,d,t,os⟩ : Shared).TypeIs (.builtin "object.__class__") "getset_descriptor":=F.typeOf_object_class
 have f5:=F.typeOf_object_class
 have f6:=F.slot_gs_get.lookup
 have f7:=F.slot_gs_set.lookup
 have L1:=PySem.W.looks_findIn (M:=model prog w) X c.cl
 repeat (any_goals (first | assumption | (with_reducible refine wpAny_loadPart_at hx ?_;rw [hc]) | with_reducible refine L1.at ?_ | wp_step))
 refine zpI c X hx hc ?_
 repeat (any_goals (first | assumption | wp_step))
theorem zlB {M:Model} {nameV:Value} {Q:Unit→Shared→Prop} (c:XC K C) (X:K.In h) (hx:h.get? a=some o) (hc:o.cls = .ref C) (hq:Q () ⟨h,g,d,t,os⟩) :
  wpAny M A (checkBuiltinCall "BaseException.__getattribute__" ⟨[.ref a,nameV],[]⟩) Q E ⟨h,g,d,t,os⟩:=by
 have L:PySem.W.Looks M h (isInstance (.ref a) (.type "BaseException")) true:=by
  refine PySem.W.Looks.andThen (a := .ref C) ?_ (PySem.W.looks_subIn X c.be)
  rw [← hc]
  exact (PySem.W.Looks.ld hx).andThen .now
 have hk:builtinKind "BaseException.__getattribute__" = some .slot:=by decide +kernel
 have hs:splitId "BaseException.__getattribute__" = some ("BaseException", "__getattribute__"):=by decide +kernel
 have ha:=F.args_bexc_ga (.ref a) nameV
 exact PySem.W.check_slot (i := "BaseException.__getattribute__") (owner := "BaseException") (n := "__getattribute__") (self := .ref a) (rest:=[nameV]) (kw:=[]) (s:=⟨h,g,d,t,os⟩) hk hs L ha hq
theorem zqY {tk:Tok} {fill expr:Bool} {Q:Value→Shared→Prop} (c:XC K C) (X:K.In h) (hx:h.get? a=some o) (hc:o.cls = .ref C) (hq:Q (.ref C) ⟨h,g,d,t,os⟩) :
  wpAny (model prog w) A (getAttrBy (.ref a) (.str "__class__" tk) fill expr) Q E ⟨h,g,d,t,os⟩:=by
 have f3:=PySem.F.excAttr_ValueError.ga.bind (.ref a)
 have hx0:(expr && onTheHeap (Value.builtin "BaseException.__getattribute__"))=false:=by cases expr <;> rfl
 have hx2:(Value.builtin "BaseException.__getattribute__" == Value.builtin "object.__getattribute__")=false:=by decide +kernel
 have hx1:(onTheHeap (Value.ref C) && Value.builtin "BaseException.__getattribute__" == Value.builtin "object.__getattribute__")=false:=by rw [hx2];rfl
 have L1:=PySem.W.looks_findIn (M:=model prog w) X c.ga
 have L2:=PySem.W.looks_findIn (M:=model prog w) X c.gt
 repeat (any_goals (first | assumption | (with_reducible refine wpAny_loadPart_at hx ?_;rw [hc]) | with_reducible refine L1.at ?_ | with_reducible refine L2.at ?_ | wp_step))
 refine codeAny_call_builtin PySem.F.excAttr_ValueError.ga.plain F.entry_bexc_ga (zlB c X hx hc (zlV c X hx hc ?_))
 repeat (any_goals (first | assumption | wp_step))
theorem zoa {Q:Option Value→Shared→Prop} (c:XC K C) (X:K.In h) (hx:h.get? a=some o) (hc:o.cls = .ref C) (hq:Q (some (.ref C)) ⟨h,g,d,t + 1,os⟩) :
  wpAny (model prog w) A (getAttr? (.ref a) "__class__") Q E ⟨h,g,d,t,os⟩:=by
 unfold getAttr? getAttrBy?
 repeat (any_goals (first | assumption | with_reducible apply zqY c X hx hc | wp_step))
end
end L2
namespace L2
open PySem PySem.Spec PyProof.Rows
section
variable {K:PySem.W.Frag} {C D x:Addr} {oe:Obj} {b:Bool}
theorem XC.get (c:XC K C):∃ cd,PySem.W.clsIn K C=some cd∧cd.mro.isEmpty=false∧cd.mro.contains (.ref C)=true∧PySem.W.typeIn K (.ref C)=some (.type "type"):=by
 obtain ⟨nm,q,N,bs,bm,hdct,sn,sub,ab,col,dd,k0,k1,k2,k3,k5,e⟩:=c.ob
 refine ⟨{ name:=nm,bases:=bs,mro := .ref C :: bm,ns:=N,qualname:=q,hasDict:=hdct,slotNames:=sn,subclasses:=sub,abstract:=ab,collection:=col,hasDel:=false },?_,rfl,?_,?_⟩
 ·unfold PySem.W.clsIn
  rw [e]
 ·simp
 ·show (K.lookup C).map (·.cls)=_
  rw [e]
  rfl
theorem XC.isType (c:XC K C) {M:Model} {h:Heap} (X:K.In h):PySem.W.Looks M h (PySem.isType (.ref C)) true:=by
 obtain ⟨nm,q,N,bs,bm,hdct,sn,sub,ab,col,dd,k0,k1,k2,k3,k5,e⟩:=c.ob
 intro A' Q' E' s' k q
 unfold PySem.isType loadHead
 exact wpAny_bind (wpAny_loadPart (k _ _ (X _ _ e)) (wpAny_pure q))
theorem zlE (c:XC K D) (hc:oe.cls = .ref D):PySem.W.KitX K (.ref x) (.ref D) (fun h=>h.get? x=some oe) where
 ty:=fun M h _ p=>hc ▸ (PySem.W.Looks.ld p).andThen .now
 it:=fun _ _ X _=>c.isType X
 ne:=fun h tp dd its n sl X htp=>by
  obtain ⟨nm,q,N,bs,bm,hdct,sn,sub,ab,col,dd,k0,k1,k2,k3,k5,e⟩:=c.ob
  refine Bool.eq_false_iff.mpr fun q=>?_
  have e':D=tp:=Value.ref.inj (beq_iff_eq.mp q)
  subst e'
  have z:=Option.some.inj ((X _ _ e).symm.trans htp)
  have z':=congrArg Obj.data z
  cases z'
 ca:=fun {_ _ _ _ _ s} X p k=>by obtain ⟨h,g,d,t,os⟩:=s;exact zoa c X p hc k
theorem zmZ (cD:XC K D) (cC:XC K C) (s:PySem.W.subIn K (.ref D) (.ref C)=some b):PySem.W.kitOne K (.ref D) (.ref C)=some b:=by
 unfold PySem.W.kitOne
 split
 ·rename_i q
  have e:D=C:=Value.ref.inj (beq_iff_eq.mp q)
  subst e
  obtain ⟨cd,h1,h2,h3,_⟩:=cD.get
  change PySem.W.mroIn K D (.ref D)=some b at s
  unfold PySem.W.mroIn at s
  rw [h1] at s
  simp only [Option.bind_some,h2,h3] at s
  simpa using s
 ·obtain ⟨cd,h1,_,_,h4⟩:=cC.get
  unfold PySem.W.kitCls
  simp only [h1,h4]
  exact s
theorem zlZ {T:String} (s:PySem.W.subIn K (.ref D) (.type T)=some b) (hT:PySem.W.kitMeta T=true):PySem.W.kitOne K (.ref D) (.type T)=some b:=by
 unfold PySem.W.kitOne
 rw [if_neg (by simp)]
 unfold PySem.W.kitCls
 simp only [hT]
 exact s
theorem zjA:PySem.W.kitMeta "ValueError" = true:=by kernel_rfl
end
def Cx.zbu (X:Cx) (x:Addr) (oe:Obj):Cx:={ X with A:=X.A.mark (some (.ref x)),calm:=false,pn:=X.pn ++ [(x,oe)],xe:=fun _ _=>False }
theorem Cx.Ok.zbu {X:Cx} (ok:X.Ok) (x:Addr) (oe:Obj):(X.zbu x oe).Ok :=
 ⟨ok.mod,ok.kind,ok.glob,ok.blt,ok.above,ok.inj,ok.has,ok.cab,fun h=>Bool.noConfusion h,ok.frames,ok.stk,ok.exf,ok.bs,ok.bsz,ok.noex,ok.exfs,ok.funs,ok.frf⟩
section
variable {X:Cx} {σ:St} {H:Hp} {s:Shared} {x:Addr} {oe:Obj}
theorem Inv.zbu (I:Inv X [] σ H s) (p:s.heap.get? x=some oe∧H x=none∧x ≠ X.env.locals∧x ∉ X.fs∧∀ v,oe.data ≠ .cell v):Inv (X.zbu x oe) [] σ H s :=
 ⟨I.ok.zbu x oe,I.os,I.bare,I.base,I.loc,I.cell,I.free,I.freeC,fun q hq=>by
  have hq:q ∈ (X.pn ++ [(x,oe)]) ++ []:=hq
  rw [List.append_nil] at hq
  rcases List.mem_append.mp hq with z | z
  ·exact I.pin q (List.mem_append_left _ z)
  ·rw [List.mem_singleton.mp z];exact p,I.hok,I.len⟩
theorem Inv.uncaught (ok:X.Ok) (I:Inv (X.zbu x oe) [] σ H s):Inv X [] σ H s :=
 ⟨ok,I.os,I.bare,I.base,I.loc,I.cell,I.free,I.freeC,fun q hq=>I.pin q (by
  rw [List.append_nil] at hq ⊢
  exact List.mem_append_left _ hq),I.hok,I.len⟩
theorem ExAt.pin {cls:Value} {dx:Option Addr} {tb:Bool} (I:Inv X [] σ H s) (t:Top1 X) (e:ExAt X.s₀.heap s.heap H x cls dx tb):∃ oe vs,oe.cls=cls∧oe.dict=dx∧oe.data = .fields vs∧s.heap.get? x=some oe∧H x=none∧x ≠ X.env.locals∧x ∉ X.fs∧∀ v,oe.data ≠ .cell v:=by
 obtain ⟨_,hxH,oe,vs,he,hc,hdx,hd,_⟩:=e
 have nf:=ExAt.zl7 I he hd
 exact ⟨oe,vs,hc,hdx,hd,he,hxH,fun z=>nf (t.mem.mpr (.inl z)),fun z=>nf (t.mem.mpr (.inr z)),fun v z=>by rw [hd] at z;cases z⟩
def rIsX (K:PySem.W.Frag) (x:Addr) (cls:Value):List V→Hp→VK→Prop:=fun xs H Q=>∃ D,cls = .ref D∧XC K D ∧
 ((∃ C b,xs=[.ref x, .ref C]∧PySem.W.kitOne K cls (.ref C)=some b∧Q (.bl b) H)∨(∃ T b,xs=[.ref x, .ty T]∧PySem.W.kitOne K cls (.type T)=some b∧Q (.bl b) H) ∨
  ∃ (p:Addr) (cs:List Addr) (b:Bool),xs=[.ref x, .ref p]∧H p=some (.tup (cs.map V.ref))∧PySem.W.kitAny K cls (cs.map Value.ref)=some b∧Q (.bl b) H)
theorem zhJ:∀ {cs:List Addr} {us:List Value},Vals (cs.map V.ref) us→us=cs.map Value.ref
 | [],_, .nil=>rfl
 | _ :: _,_, .cons r t=>by rw [List.map_cons,← zhJ t];congr
theorem zlQ (hp:(x,oe) ∈ X.pn):zdc X (.builtin "isinstance") (rIsX X.K x oe.cls):=by
 intro pins s σ H xs us Q I r h
 obtain ⟨D,hc,c,h⟩:=h
 have he:=(I.pin _ (List.mem_append_left _ hp)).1
 have Z:=zlE (x:=x) c hc
 rw [hc] at h
 rcases h with ⟨C,b,rfl,e,q⟩ | ⟨T,b,rfl,e,q⟩ | ⟨p,cs,b,rfl,hpt,e,q⟩
 ·obtain ⟨u,v,rfl,ru,rv⟩:=vals2 r
  obtain rfl:u = .ref x:=ru
  obtain rfl:v = .ref C:=rv
  exact PySem.W.kia_one Z I.kIn he e (by intro z;cases z) fun tk=>⟨.bl b,H,I.tok tk,rfl,q⟩
 ·obtain ⟨u,v,rfl,ru,rv⟩:=vals2 r
  obtain rfl:u = .ref x:=ru
  obtain rfl:v = .type T:=rv
  exact PySem.W.kia_one Z I.kIn he e (by intro z;cases z) fun tk=>⟨.bl b,H,I.tok tk,rfl,q⟩
 ·obtain ⟨u,v,rfl,ru,rv⟩:=vals2 r
  obtain rfl:u = .ref x:=ru
  obtain rfl:v = .ref p:=rv
  obtain ⟨_,its,vi,⟨o,ho,hcl,n,hdt⟩⟩:=I.hok p _ hpt
  obtain ⟨oc,od,odt,osl⟩:=o
  simp only at hcl hdt
  subst hcl hdt
  rw [zhJ vi] at ho
  exact PySem.W.kia_tup Z I.kIn he ho e (by intro z;cases z) fun tk=>⟨.bl b,H,I.tok tk,rfl,q⟩
end
section
variable {M:Model} {A:Around} {E:Value→Shared→Prop} {h:Heap} {g:Array GenState} {d:Drawn} {t:Nat} {os:OsState} {e:Addr} {oe:Obj} {K:PySem.W.Frag} {C D:Addr} {b:Bool}
theorem zpw {Q:Bool→Shared→Prop} (cC:XC K C) (X:K.In h) (he:h.get? e=some oe) (hc:oe.cls = .ref D) (sb:PySem.W.subIn K (.ref D) (.ref C)=some b) (hq:Q b ⟨h,g,d,t,os⟩) :
  wpAny M A (excMatches (.ref e) (.ref C)) Q E ⟨h,g,d,t,os⟩:=by
 obtain ⟨nm,q,N,bs,bm,hdct,sn,sub,ab,col,dd,k0,k1,k2,k3,k5,hC0⟩:=cC.ob
 have hC:=X _ _ hC0
 have L:=PySem.W.looks_subIn (M:=M) X sb
 have LB:=PySem.W.looks_subIn (M:=M) X cC.be
 have f:=tc_notTuple
 unfold excMatches
 repeat (first | (with_reducible refine wpAny_loadPart_at he ?_;rw [hc]) | with_reducible refine wpAny_loadPart_at hC ?_ | with_reducible refine LB.at ?_ | with_reducible refine L.at ?_ | wp_step)
 cases b <;> (wp_walk;exact hq)
end
theorem zgo {X:Cx} {M:Model} {A:Around} {E:Value→Shared→Prop} {σ:St} {H:Hp} {s:Shared} {i:Nat} {n:Str} {pos:Pos} {Q:Unit→Shared→Prop} (I:Inv X [] σ H s) (hN:X.N.Nodup) (hi:X.N[i]? = some n) (hl:X.env.scope.names.lookup n=some .local)
  (h:∀ s',Inv X [] (σ.set i none) H s'→Q () s'):wpAny M A (do bindName X.env n .none;unbindBehindTheSuite X.env n pos) Q E s:=by
 refine wpAny_bind (wpAny_bindName (zdE (v := .non) I hN hi (.inl hl) rfl (fun s1 I1=>?_) (.inr hl)))
 unfold unbindBehindTheSuite
 refine wpAny_onRaise ?_
 have hcls:(X.env.scope.kind == .class || (X.env.scope.kind == .module && X.env.locals != X.env.globals))=false:=by rw [I.ok.kind];rfl
 obtain ⟨m,hn,hlo⟩:=id I1.loc
 have hiσ:i < σ.length:=by rw [I.len];exact (List.getElem?_eq_some_iff.mp hi).1
 have hv:m n=some .none:=by
  obtain ⟨u,ru,l⟩:=hlo i n .non hi (by rw [List.getElem?_set_self hiσ]) (.inl hl)
  obtain rfl:u=Value.none:=ru
  rcases l with ⟨_,l⟩ | ⟨k,_⟩
  ·exact l
  ·have hl':X.env.kindOf n=some .local:=hl
   rcases k with k | k <;> (rw [hl'] at k;cases k)
 refine wpAny_unbindName_local hl hn hv hcls fun h' u hn' hs=>?_
 have cne:=I1.cne
 obtain ⟨oL,_,_,hoL,_⟩:=id hn
 refine h _ ⟨I1.ok,I1.os,I1.bare,⟨fun b o e nn hb hx=>?_,fun b o e nn hb hx=>?_,I1.base.free,fun b o e hx=>?_,I1.base.tups,I1.base.frzs,I1.base.tbls⟩,⟨_,hn',fun j y v' e1 e2 e3=>?_⟩,fun y c e=>?_,I1.free,I1.freeC,fun p hp=>?_,fun b ob e=>?_,by simpa using I.len⟩
 ·exact (hs.2 b (Nat.ne_of_lt (Nat.lt_of_lt_of_le (Heap.lt_size e) I1.ok.above))).trans (I1.base.keep b o e nn hb hx)
 ·obtain ⟨sl,e1⟩:=I1.base.slot b o e nn hb hx
  exact ⟨sl,(hs.2 b (Nat.ne_of_lt (Nat.lt_of_lt_of_le (Heap.lt_size e) I1.ok.above))).trans e1⟩
 ·obtain ⟨o',e1⟩:=I1.base.there b o e hx
  exact ⟨o',(hs.2 b (Nat.ne_of_lt (Nat.lt_of_lt_of_le (Heap.lt_size e) I1.ok.above))).trans e1⟩
 ·have hj:j ≠ i:=fun z=>by
   subst z
   rw [List.getElem?_set_self hiσ] at e2
   cases e2
  rw [List.getElem?_set_ne (Ne.symm hj)] at e2
  obtain ⟨u',r',q⟩:=hlo j y v' e1 (by rw [List.getElem?_set_ne (Ne.symm hj)];exact e2) e3
  refine ⟨u',r',?_⟩
  rcases q with ⟨k,e⟩ | ⟨k,c,e,z⟩
  ·refine .inl ⟨k,?_⟩
   have:y ≠ n:=fun e=>hj (zgv hN e1 (e ▸ hi))
   simp [this,e]
  ·exact .inr ⟨k,c,e,z.sameBut hs (cne y c e)⟩
 ·obtain ⟨w',z⟩:=I1.cell y c e
  exact ⟨w',z.sameBut hs (cne y c e)⟩
 ·obtain ⟨e,nn,ne,nf,d⟩:=I1.pin p hp
  exact ⟨(hs.2 p.1 ne).trans e,nn,ne,nf,d⟩
 ·refine (I1.hok b ob e).stay (fun c w' hc q=>(hs.2 c ?_).trans q) (fun _ q=>q) fun _ _ q=>q
  rintro rfl
  have hfree:=I1.free
  rcases hc with rfl | hc
  ·rw [hfree] at e;cases e
  ·rw [hfree] at hc;cases hc
def PS0 (X:Cx) (st:Stmt) (t:TS):Prop:=∀ (s:Shared) (σ:St) (H:Hp) (D:Ends),Inv X [] σ H s→t D σ H→wpAny (model X.prog X.w) X.A (exec st X.env) (SP X [] D) X.xe s
def PSs0 (X:Cx) (st:List Stmt) (t:TS):Prop:=∀ (s:Shared) (σ:St) (H:Hp) (D:Ends),Inv X [] σ H s→t D σ H→wpAny (model X.prog X.w) X.A (execs st X.env) (SP X [] D) X.xe s
theorem PS.ps0 {X:Cx} {st:Stmt} {t:TS} (h:PS X st t):PS0 X st t:=h []
theorem PSs.ps0 {X:Cx} {st:List Stmt} {t:TS} (h:PSs X st t):PSs0 X st t:=h []
theorem zlm {X:Cx} {st:Stmt} {rest:List Stmt} {t u:TS} (h1:PS0 X st t) (h2:PSs0 X rest u):PSs0 X (st :: rest) (tSeq t u):=by
 intro s σ H D I h
 refine wpAny_execs_cons (thn (h1 s σ H { D with nx:=u D } I h) fun f s1 q=>?_)
 cases f with
 | next =>
  obtain ⟨σ',H',I',q⟩:=q
  exact h2 s1 σ' H' D I' q
 | brk=>exact q
 | cont=>exact q
 | ret u=>exact q
end L2
namespace L2
open PySem PySem.Spec PyProof.Rows
abbrev TH:=Addr→Value→Option Addr→TS
def PH (X:Cx) (hs:List ExceptHandler) (th:TH):Prop:=∀ (s:Shared) (σ:St) (H:Hp) (D:Ends) (x:Addr) (cls:Value) (dx:Option Addr),Inv X [] σ H s→ExAt X.s₀.heap s.heap H x cls dx true→th x cls dx D σ H →
 wpAny (model X.prog X.w) X.A (handleBy (.ref x) X.env hs) (SP X [] D) X.xe s
def tNoH:TH:=fun _ _ _ _ _ _=>False
theorem zp7 {X:Cx}:PH X [] tNoH:=fun _ _ _ _ _ _ _ _ _ h=>h.elim
def Ends.drop (D:Ends) (i:Nat):Ends:=⟨fun σ H=>D.nx (σ.set i none) H,D.rt,fun σ H=>D.bk (σ.set i none) H,fun σ H=>D.ct (σ.set i none) H⟩
def tH (K:PySem.W.Frag) (C:Addr) (i:Nat) (ts th:TH):TH:=fun x cls dx D σ H=>∃ E b,cls = .ref E∧PySem.W.subIn K (.ref E) (.ref C)=some b ∧
 if b=true then ts x cls dx (D.drop i) (σ.set i (some (.ref x))) H else th x cls dx D σ H
section
variable {X:Cx} {C:Addr} {i:Nat} {n y:Str} {np pos:Pos} {b₀:Stmt} {suite:List Stmt} {rest:List ExceptHandler} {ts th:TH}
def tTry (tb:WX→TS) (th:TH):TS:=fun D σ H=>tb (fun σ' cls dx H'=>∀ x,H' x=none→th x cls dx D σ' H') D σ H
theorem zpo {h0:ExceptHandler} {hs:List ExceptHandler} {body:List Stmt} {tb:WX→TS} (t:Top1 X) (hx:X.ex=[]) (hb:∀ W,PSs0 (X.wish (XE X W)) body (tb W)) (hh:PH X (h0 :: hs) th):PS0 X (.Try body (h0 :: hs) [] [] pos) (tTry tb th):=by
 intro s σ H D I h
 refine wpAny_Try_except (wpAny_mono (hb _ s σ H D (I.wish _) h) (fun f s1 q=>?_) fun e s1 q=>?_)
 ·have q:=q.zcz
  cases f with
  | next =>
   obtain ⟨σ',H',I',q⟩:=q
   exact wpAny_execs_nil ⟨σ',H',I',q⟩
  | brk=>exact q
  | cont=>exact q
  | ret u=>exact q
 ·obtain ⟨σ',H',x,cls,dx,rfl,I',ex,q⟩:=q
  refine ziv I' t ex fun h1 I1 e1=>zd3 I1 t e1 fun h2 I2 e2=>?_
  exact hh _ σ' H' D x cls dx I2 e2 (q x e2.2.1)
end
section
variable {P:Program} {w:World} {K:PySem.W.Frag} {mg:Str→Option Value} {base:Heap}
theorem zpa {CX:CXT} {k:Nat} {f:Addr} {name qual:Str} {params:Arguments} {body:List Stmt} {scope:Scope} {dV kV doc pm cdv ct oc:Value} {an od:Option Addr}
  {osl:Array (Option Value)} {N ps:List Str} {sp:Sp} (lk:K.lookup f=some ⟨oc,od, .func (PySem.W.fnOf name qual params body scope dV kV doc pm an cdv ct),osl⟩) (hcd:PySem.W.codeIn K cdv qual=true) (S:zat N ps scope)
  (len:∀ vs H Q E,sp vs H Q E→vs.length=ps.length)
  (hbody:∀ (A:Around) (outer:List Env) (s:Shared) (H:Hp) (vs:List V) (Q:VK) (E:XK),Room k (A.deeper (envOfC qual scope s.heap.objs.size f cdv))→sp vs H Q E →
   ∃ t,PSs0 (cxOf CX P w K mg base N qual scope f cdv A outer s H E) body t∧t { nx:=fun _ H'=>Q .non H',rt:=Q } (start N vs) H) :
  FnOk P w K mg base CX (k + 1) f (PySem.W.fnOf name qual params body scope dV kV doc pm an cdv ct) ps sp:=by
 refine ⟨len,fun A outer s H args us vs Q E hr e0 hb r hsp=>?_⟩
 have hl:=len _ _ _ _ hsp
 have KX:K.In s.heap:=e0.mod.kin.keeps fun b o e=>(e0.bs b o e).1
 have lim:s.heap.NoLimit:=e0.mod.nolimit.keeps fun b o e=>(e0.bs b o e).1
 have hkind:∀ y ∈ ps.zip us,scope.names.lookup y.1=some .local∨(scope.names.lookup y.1=some .cell∧((cellsFrom (s.heap.objs.size + 1) scope.names []).lookup y.1).isSome=true):=fun ⟨n,v⟩ hy=>by
  rcases S.par n (List.of_mem_zip hy).1 with q | q
  ·exact .inl q
  ·exact .inr ⟨q,PySem.W.cellsFrom_some _ _ _ (.inl q)⟩
 refine codeAny_call_function hr.depth (KX _ _ lk) rfl S.co S.gen rfl (PySem.W.codeRec_of KX hcd) (hb _ _ _ _ ?_)
 refine wpAny_newFunctionEnv_cells S.kind hkind fun env he s1 x=>?_
 subst he
 refine ⟨lim.keeps x.toInCall.keep,codeAny_func ?_⟩
 obtain ⟨t,ht,hq⟩:=hbody A outer s H vs Q E (hr.deeper _) hsp
 have I:Inv (cxOf CX P w K mg base N qual scope f cdv A outer s H E) [] (start N vs) H s1:=zd2 S hr.hd e0 hl r x
 refine wpAny_mono (ht s1 (start N vs) H _ I hq) (fun fl s' hs=>?_) fun e s' hs=>hs
 have fin:∀ {σ':St} {H':Hp} {v:V} {u:Value},Inv (cxOf CX P w K mg base N qual scope f cdv A outer s H E) [] σ' H' s'→RelV v u→Q v H'→CE outer P w H s Q u s' :=
  fun {σ' H' v u} J rv q=>⟨v,H',J.os,J.bare,J.base,J.hok,rv,q⟩
 cases fl with
 | ret u =>
  obtain ⟨v,σ',H',J,rv,q⟩:=hs
  exact fin J rv q
 | next =>
  obtain ⟨σ',H',J,q⟩:=hs
  exact fin (v:=V.non) (u:=Value.none) J rfl q
 | brk =>
  obtain ⟨_,_,_,q⟩:=hs
  exact False.elim q
 | cont =>
  obtain ⟨_,_,_,q⟩:=hs
  exact False.elim q
theorem PSs0.nox {X:Cx} {st:List Stmt} {t:TS} (h:PSs0 X.nox st t):PSs0 X st t:=fun s σ H D I hw =>
 wpAny_mono (h s σ H D (I.wish _) hw) (fun _ _ q=>q.zcz) fun _ _ z=>False.elim z
theorem Def.of0 {x:Str} {st:Stmt} {N ps:List Str} {k:Nat} {sp:Sp} (h:HasFn K mg x st) (S:zat N ps (zab st))
  (bind:∀ (kV doc pm:Value) (an:Option Addr) (cdv ct:Value) (us:List Value),us.length=ps.length→bindArgs (PySem.W.fnOf x x (zau st) (zai st) (zab st) .none kV doc pm an cdv ct) ⟨us,[]⟩ = pure (ps.zip us))
  (len:∀ vs H Q E,sp vs H Q E→vs.length=ps.length)
  (hbody:∀ (f:Addr) (cdv:Value) (A:Around) (outer:List Env) (s:Shared) (H:Hp) (vs:List V) (Q:VK) (E:XK),Room k (A.deeper (envOfC x (zab st) s.heap.objs.size f cdv))→sp vs H Q E →
   ∃ t,PSs0 (cxOf CX0 P w K mg base N x (zab st) f cdv A outer s H E).nox (zai st) t∧t { nx:=fun _ H'=>Q .non H',rt:=Q } (start N vs) H):Def P w K mg base x (k + 1) ps sp:=by
 obtain ⟨f,fd,hm,F⟩:=h.ex
 refine ⟨f,fd,?_,hm,F.kp,F.binds bind⟩
 obtain ⟨oc,od,kV,doc,pm,an,cdv,ct,osl,rfl,lk,hcd⟩:=F.ex
 refine zpa lk hcd S len fun A outer s H vs Q E hr hsp=>?_
 obtain ⟨t,h,q⟩:=hbody f cdv A outer s H vs Q E hr hsp
 exact ⟨t,h.nox,q⟩
end
end L2
namespace L2
open PySem PySem.Spec PyProof.Rows
def zpq (scope sc:Scope) (N:List Str) (js:List Nat):Bool :=
 scope.kind == .function && (scope.names.all fun y=>y.2 != .cell && (y.2 != .local || scope.names.lookup y.1 == some .local) && (y.2 != .free || (sc.names.lookup y.1 == some .cell || sc.names.lookup y.1 == some .free))) &&
 js.all fun j=>match N[j]? with
  | some x=>scope.names.lookup x == some .free
  | none=>false
theorem LcOk.of {X:Cx} {scope:Scope} {ls:List Str} {js:List Nat} (sc:Scope) (N:List Str) (hsc:X.env.scope=sc) (hN:X.N=N) (ok:zpq scope sc N js=true):LcOk X scope ls js:=by
 unfold zpq at ok
 rw [Bool.and_eq_true,Bool.and_eq_true] at ok
 obtain ⟨⟨h1,h2⟩,h3⟩:=ok
 rw [List.all_eq_true] at h2 h3
 refine ⟨by simpa using h1,fun y hy=>?_,fun y hy hl=>?_,fun y hy hf=>?_,fun j hj=>?_⟩
 ·have q:=h2 y hy
  rw [Bool.and_eq_true,Bool.and_eq_true] at q
  simpa using q.1.1
 ·have q:=h2 y hy
  rw [Bool.and_eq_true,Bool.and_eq_true] at q
  simpa [hl] using q.1.2
 ·have q:=h2 y hy
  rw [Bool.and_eq_true,Bool.and_eq_true] at q
  have q2:=q.2
  rw [hf] at q2
  unfold Env.kindOf
  rw [hsc]
  simpa using q2
 ·have q:=h3 j hj
  rw [hN]
  cases e:N[j]? with
  | none=>rw [e] at q;cases q
  | some x=>rw [e] at q;exact ⟨x,rfl,by simpa using q⟩
theorem Kept.same {l:Addr} {H H':Hp} (e:Kept l H H') (hl:H l=none):Same H H':=fun b o h=>e b o (zaB h hl) h
end L2
namespace L2
open PySem PySem.Spec PyProof.Rows
end L2
namespace L2
open PySem PySem.Spec PyProof.Rows
section
variable {X:Cx}
end
end L2
namespace L2
open PySem PySem.Spec PyProof.Rows
section
variable {X:Cx}
end
theorem Rows.take {K:PySem.W.Frag} {H:Hp}:∀ {xs:List V} {rs:List (List Int)} (k:Nat),Rows K H xs rs→Rows K H (xs.take k) (rs.take k)
 | _,_,0,_ => .nil
 | _,_,_ + 1, .nil => .nil
 | _,_,k + 1, .cons q t => .cons q (Rows.take k t)
theorem Rows.append {K:PySem.W.Frag} {H:Hp}:∀ {xs ys:List V} {rs qs:List (List Int)},Rows K H xs rs→Rows K H ys qs→Rows K H (xs ++ ys) (rs ++ qs)
 | _,_,_,_, .nil,h=>h
 | _,_,_,_, .cons q t,h => .cons q (Rows.append t h)
end L2
namespace V2
open PySem PySem.Spec PyProof.Rows L2
inductive A where
 | int (i:Int) | bl (b:Bool) | str (x:Str) | non | ty (n:String) | adr (p:Addr) | exn (p d:Addr) (f:Str) (i:Int) | gl (x:Str) | scr (ns:List Int)
 | tup (ds:List A) | lst (ds:List A) | cel (k:Nat)
inductive Fd where
 | val (a:A) | lst (ds:List A) | dct (kvs:List (Key × A))
@[simp] def Fd.own:Fd→Bool
 | .val _=>false
 | _=>true
inductive Cell where
 | lst (ds:List A) | dct (kvs:List (Key × A)) | ins (cls:Str) (fs:List (Str × Fd)) | tab (x:Str) (pos:Pos) (qual:Str) | dead
@[simp] def Cell.noOwn:Cell→Bool
 | .ins _ fs=>fs.all fun p=>!p.2.own
 | _=>true
structure Exc where
 cls:Str
 fs:List (Str × A)
inductive Rs (α:Type) where
 | ok (a:α) | exc (x:Exc)
abbrev Sto:=List Cell
abbrev Ev:=List (Option A)
abbrev Mo (α:Type):=Sto→Option (Rs α × Sto)
@[simp] def ret {α:Type} (a:α):Mo α:=fun Ω=>some (.ok a,Ω)
@[simp] def mb {α β:Type} (m:Mo α) (k:α→Mo β):Mo β:=fun Ω =>
 match m Ω with
 | some (.ok a,Ω1)=>k a Ω1
 | some (.exc x,Ω1)=>some (.exc x,Ω1)
 | none=>none
@[simp] def stuck {α:Type}:Mo α:=fun _=>none
@[simp] def need {α:Type} (o:Option α):Mo α:=fun Ω=>o.map fun a=>(.ok a,Ω)
@[simp] def chk (p:Prop) [Decidable p] : Mo Unit:=fun Ω=>if p then some (.ok (),Ω) else none
mutual
def Den (K:PySem.W.Frag) (G:Hp) (ι:List Addr):V→A→Prop
 | v, .int j=>v = .int j
 | v, .bl b=>v = .bl b
 | v, .str x=>v = .str x
 | v, .non=>v = .non
 | v, .ty n=>v = .ty n
 | v, .adr p=>v = .ref p
 | v, .exn p d f i=>v = .ref p∧G d=some (.xd [(f, .int i)])
 | v, .gl x=>∃ C,PySem.W.nsIn K mainGlobals x=some (some (.ref C))∧v = .ref C
 | v, .scr ns=>∃ a,v = .ref a∧SqL K G a (ns.map V.int)
 | v, .tup ds=>∃ a xs,v = .ref a∧G a=some (.tup xs)∧DenL K G ι xs ds
 | v, .lst ds=>∃ a xs,v = .ref a∧G a=some (.lst xs)∧DenL K G ι xs ds
 | v, .cel k=>∃ a,v = .ref a∧ι[k]? = some a
def DenL (K:PySem.W.Frag) (G:Hp) (ι:List Addr):List V→List A→Prop
 | xs,[]=>xs=[]
 | xs,d :: ds=>∃ x r,xs=x :: r∧Den K G ι x d∧DenL K G ι r ds
end
structure Ext (G:Hp) (ι:List Addr) (G':Hp) (ι':List Addr):Prop where
 same:Same G G'
 pre:∀ (k:Nat) (a:Addr),ι[k]? = some a→ι'[k]? = some a
theorem Ext.refl (G:Hp) (ι:List Addr):Ext G ι G ι:=⟨Same.refl _,fun _ _ h=>h⟩
theorem Ext.trans {G G1 G2:Hp} {ι ι1 ι2:List Addr} (a:Ext G ι G1 ι1) (b:Ext G1 ι1 G2 ι2):Ext G ι G2 ι2:=⟨a.same.trans b.same,fun k x h=>b.pre k x (a.pre k x h)⟩
section
variable {K:PySem.W.Frag} {G G':Hp} {ι ι':List Addr}
mutual
theorem Den.ext (e:Ext G ι G' ι'):∀ {v:V} {d:A},Den K G ι v d→Den K G' ι' v d
 | _, .int _,h=>by simpa only [Den] using h
 | _, .bl _,h=>by simpa only [Den] using h
 | _, .str _,h=>by simpa only [Den] using h
 | _, .non,h=>by simpa only [Den] using h
 | _, .ty _,h=>by simpa only [Den] using h
 | _, .adr _,h=>by simpa only [Den] using h
 | _, .exn _ _ _ _,h=>by
  simp only [Den] at h ⊢
  exact ⟨h.1,e.same _ _ h.2⟩
 | _, .gl _,h=>by simpa only [Den] using h
 | _, .scr _,h=>by
  simp only [Den] at h ⊢
  obtain ⟨a,h1,h2⟩:=h
  exact ⟨a,h1,e.same.seq h2⟩
 | _, .tup ds,h=>by
  simp only [Den] at h ⊢
  obtain ⟨a,xs,h1,h2,h3⟩:=h
  exact ⟨a,xs,h1,e.same _ _ h2,DenL.ext e h3⟩
 | _, .lst ds,h=>by
  simp only [Den] at h ⊢
  obtain ⟨a,xs,h1,h2,h3⟩:=h
  exact ⟨a,xs,h1,e.same _ _ h2,DenL.ext e h3⟩
 | _, .cel k,h=>by
  simp only [Den] at h ⊢
  obtain ⟨a,h1,h2⟩:=h
  exact ⟨a,h1,e.pre _ _ h2⟩
theorem DenL.ext (e:Ext G ι G' ι'):∀ {xs:List V} {ds:List A},DenL K G ι xs ds→DenL K G' ι' xs ds
 | _,[],h=>by simpa only [DenL] using h
 | _,d :: ds,h=>by
  simp only [DenL] at h ⊢
  obtain ⟨x,r,h1,h2,h3⟩:=h
  exact ⟨x,r,h1,Den.ext e h2,DenL.ext e h3⟩
end
theorem zbm {xs:List V}:DenL K G ι xs []↔xs=[]:=by simp only [DenL]
theorem DenL.length:∀ {xs:List V} {ds:List A},DenL K G ι xs ds→xs.length=ds.length
 | _,[],h=>by simp only [DenL] at h;subst h;rfl
 | _,d :: ds,h=>by
  simp only [DenL] at h
  obtain ⟨x,r,rfl,h2,h3⟩:=h
  simp only [List.length_cons,DenL.length h3]
theorem DenL.nil:DenL K G ι [] []:=by simp only [DenL]
theorem DenL.cons {x:V} {xs:List V} {d:A} {ds:List A} (h:Den K G ι x d) (t:DenL K G ι xs ds):DenL K G ι (x :: xs) (d :: ds):=by
 simp only [DenL];exact ⟨x,xs,rfl,h,t⟩
theorem DenL.zbW {xs:List V} {d:A} {ds:List A} (h:DenL K G ι xs (d :: ds)):∃ x r,xs=x :: r∧Den K G ι x d∧DenL K G ι r ds:=by simpa only [DenL] using h
theorem DenL.get:∀ {xs:List V} {ds:List A} {i:Nat} {d:A},DenL K G ι xs ds→ds[i]? = some d→∃ x,xs[i]? = some x∧Den K G ι x d
 | _,[],_,_,_,e=>by simp at e
 | _,_ :: _,0,_,h,e=>by
  obtain ⟨x,r,rfl,h2,h3⟩:=h.zbW
  simp at e;subst e;exact ⟨x,rfl,h2⟩
 | _,_ :: _,i + 1,_,h,e=>by
  obtain ⟨x,r,rfl,h2,h3⟩:=h.zbW
  simp at e
  obtain ⟨y,q1,q2⟩:=DenL.get h3 e
  exact ⟨y,by simpa using q1,q2⟩
theorem DenL.append:∀ {xs ys:List V} {ds es:List A},DenL K G ι xs ds→DenL K G ι ys es→DenL K G ι (xs ++ ys) (ds ++ es)
 | _,_,[],_,h,t=>by rw [zbm] at h;subst h;exact t
 | _,_,d :: ds,_,h,t=>by
  obtain ⟨x,r,rfl,h2,h3⟩:=h.zbW
  exact .cons h2 (DenL.append h3 t)
theorem DenL.take:∀ {xs:List V} {ds:List A} (n:Nat),DenL K G ι xs ds→DenL K G ι (xs.take n) (ds.take n)
 | _,_,0,_=>by simpa using DenL.nil
 | _,[],n + 1,h=>by rw [zbm] at h;subst h;exact DenL.nil
 | _,d :: ds,n + 1,h=>by
  obtain ⟨x,r,rfl,h2,h3⟩:=h.zbW
  exact .cons h2 (DenL.take n h3)
theorem DenL.drop:∀ {xs:List V} {ds:List A} (n:Nat),DenL K G ι xs ds→DenL K G ι (xs.drop n) (ds.drop n)
 | _,_,0,h=>by simpa using h
 | _,[],n + 1,h=>by rw [zbm] at h;subst h;exact DenL.nil
 | _,d :: ds,n + 1,h=>by
  obtain ⟨x,r,rfl,h2,h3⟩:=h.zbW
  exact DenL.drop n h3
theorem DenL.set {x:V} {d:A} (hx:Den K G ι x d):∀ {xs:List V} {ds:List A} (n:Nat),DenL K G ι xs ds→DenL K G ι (xs.set n x) (ds.set n d)
 | _,[],n,h=>by rw [zbm] at h;subst h;exact DenL.nil
 | _,e :: ds,0,h=>by
  obtain ⟨y,r,rfl,h2,h3⟩:=h.zbW
  exact .cons hx h3
 | _,e :: ds,n + 1,h=>by
  obtain ⟨y,r,rfl,h2,h3⟩:=h.zbW
  exact .cons h2 (DenL.set hx n h3)
theorem zhf:∀ (ns:List Int),DenL K G ι (ns.map V.int) (ns.map A.int)
 | [] => .nil
 | n :: ns => .cons (by simp only [Den]) (zhf ns)
end
def zqT (K:PySem.W.Frag) (G H:Hp) (a:Addr) (x:Str) (pos:Pos) (qual:Str):Prop :=
 G a=none∧(∃ c,PySem.W.tabIn K x=some (c,a))∧∃ ps,H a=some (.tbl ps)∧TriplesOk ps.toList ∧
  (codeAmong pos ps.toList=none∨∃ c' oc vs t,codeAmong pos ps.toList=some (.ref c')∧G c'=some (.frz oc (.own 0))∧oc.data = .fields vs∧vs[1]? = some (.str qual t))
def FdOk (K:PySem.W.Frag) (G:Hp) (ι:List Addr) (H:Hp) (v:V):Fd→Prop
 | .val a=>Den K G ι v a
 | .lst ds=>∃ b xs,v = .ref b∧G b=none∧b ∉ ι∧H b=some (.lst xs)∧DenL K G ι xs ds
 | .dct kvs=>∃ b,∃ ws:List (Key × V),v = .ref b∧G b=none∧b ∉ ι∧H b=some (.dK ws)∧ws.map (·.1)=kvs.map (·.1)∧DenL K G ι (ws.map (·.2)) (kvs.map (·.2))
def zdI (K:PySem.W.Frag) (G:Hp) (ι:List Addr) (H:Hp):List (Str × V)→List (Str × Fd)→Prop
 | [],[]=>True
 | (f,v) :: ws,(g,d) :: fs=>f=g∧FdOk K G ι H v d∧zdI K G ι H ws fs
 | _,_=>False
def zc7 (K:PySem.W.Frag) (G:Hp) (ι:List Addr) (H:Hp) (a:Addr):Cell→Prop
 | .lst ds=>G a=none∧∃ xs,H a=some (.lst xs)∧DenL K G ι xs ds
 | .dct kvs=>G a=none∧∃ ws:List (Key × V),H a=some (.dK ws)∧ws.map (·.1)=kvs.map (·.1)∧DenL K G ι (ws.map (·.2)) (kvs.map (·.2))
 | .ins cls fs=>G a=none∧∃ C dx,∃ ws:List (Str × V),PySem.W.nsIn K mainGlobals cls=some (some (.ref C))∧H a=some (.ins C dx ws)∧zdI K G ι H ws fs
 | .tab x pos qual=>zqT K G H a x pos qual
 | .dead=>True
def zcw (H:Hp) (ι:List Addr) (Ω:Sto) (k i:Nat) (b:Addr):Prop:=∃ a cls fs C dx ws g h fd,ι[k]? = some a∧Ω[k]? = some (.ins cls fs)∧H a=some (.ins C dx ws)∧fs[i]? = some (g,fd)∧fd.own=true∧ws[i]? = some (h, .ref b)
structure Wd (K:PySem.W.Frag) (G:Hp) (ι:List Addr) (Ω:Sto) (H:Hp):Prop where
 sub:Same G H
 inj:ι.Nodup
 len:ι.length=Ω.length
 live:∀ a ∈ ι,∃ o,H a=some o
 cel:∀ (k:Nat) (c:Cell) (a:Addr),Ω[k]? = some c→ι[k]? = some a→zc7 K G ι H a c
 sep:∀ (b:Addr) (k i k' i':Nat),zcw H ι Ω k i b→zcw H ι Ω k' i' b→k=k'∧i=i'
section
variable {K:PySem.W.Frag} {G G' H H':Hp} {ι ι':List Addr} {Ω:Sto} {a p:Addr}
theorem FdOk.mono {v:V} {fd:Fd} (h:FdOk K G ι H v fd) (e:Ext G ι G' ι') (ho:∀ b o,b ∉ ι→G b=none→H b=some o→b ∉ ι'∧G' b=none∧H' b=some o):FdOk K G' ι' H' v fd:=by
 cases fd with
 | val a=>exact Den.ext e h
 | lst ds =>
  obtain ⟨b,xs,h1,h2,h3,h4,h5⟩:=h
  obtain ⟨q1,q2,q3⟩:=ho b _ h3 h2 h4
  exact ⟨b,xs,h1,q2,q1,q3,h5.ext e⟩
 | dct kvs =>
  obtain ⟨b,ws,h1,h2,h3,h4,h5,h6⟩:=h
  obtain ⟨q1,q2,q3⟩:=ho b _ h3 h2 h4
  exact ⟨b,ws,h1,q2,q1,q3,h5,h6.ext e⟩
theorem zdI.map {K':PySem.W.Frag} {G' H':Hp} {ι':List Addr} (f:∀ v fd,FdOk K G ι H v fd→FdOk K' G' ι' H' v fd):∀ {ws:List (Str × V)} {fs:List (Str × Fd)},zdI K G ι H ws fs→zdI K' G' ι' H' ws fs
 | [],[],_=>trivial
 | (_,_) :: _,(_,_) :: _,h=>⟨h.1,f _ _ h.2.1,zdI.map f h.2.2⟩
 | [],_ :: _,h=>h.elim
 | _ :: _,[],h=>h.elim
theorem zc7.mono {c:Cell} (h:zc7 K G ι H a c) (e:Ext G ι G' ι') (hg:G' a=G a) (hh:H' a=H a) (ho:∀ b o,b ∉ ι→G b=none→H b=some o→b ∉ ι'∧G' b=none∧H' b=some o):zc7 K G' ι' H' a c:=by
 cases c with
 | lst ds=>obtain ⟨g,xs,h1,h2⟩:=h;exact ⟨hg.trans g,xs,hh.trans h1,h2.ext e⟩
 | dct kvs=>obtain ⟨g,ws,h1,h2,h3⟩:=h;exact ⟨hg.trans g,ws,hh.trans h1,h2,h3.ext e⟩
 | ins cls fs=>obtain ⟨g,C,dx,ws,h0,h1,h2⟩:=h;exact ⟨hg.trans g,C,dx,ws,h0,hh.trans h1,h2.map fun _ _ q=>q.mono e ho⟩
 | tab x pos qual =>
  obtain ⟨g,hc,ps,h1,h2,h3⟩:=h
  exact ⟨hg.trans g,hc,ps,hh.trans h1,h2,h3.imp id fun ⟨c',oc,vs,t,q1,q2,q3⟩=>⟨c',oc,vs,t,q1,e.same _ _ q2,q3⟩⟩
 | dead=>trivial
theorem Wd.addr (w:Wd K G ι Ω H) {k:Nat} {c:Cell} (h:Ω[k]? = some c):∃ a,ι[k]? = some a:=by
 have hk:=(List.getElem?_eq_some_iff.mp h).1
 exact ⟨ι[k]'(by rw [w.len];exact hk),List.getElem?_eq_getElem _⟩
theorem Wd.ne (w:Wd K G ι Ω H) (hp:H p=none) (ha:a ∈ ι):a ≠ p:=by
 obtain ⟨o,ho⟩:=w.live a ha
 exact zaB ho hp
theorem Wd.zgL (w:Wd K G ι Ω H) (hp:H p=none):G p=none:=by
 cases e:G p with
 | none=>rfl
 | some o=>rw [w.sub _ _ e] at hp;cases hp
theorem zcw.to {k i:Nat} {b:Addr} {ι':List Addr} {Ω Ω':Sto} (h:zcw H ι Ω k i b) (h1:∀ a,ι[k]? = some a→ι'[k]? = some a∧∀ o,H a=some o→H' a=some o) (h2:∀ cls fs,Ω[k]? = some (.ins cls fs)→Ω'[k]? = some (.ins cls fs)):zcw H' ι' Ω' k i b:=by
 obtain ⟨a,cls,fs,C,dx,ws,g,h',fd,q1,q2,q3,q4,q5,q6⟩:=h
 exact ⟨a,cls,fs,C,dx,ws,g,h',fd,(h1 a q1).1,h2 _ _ q2,(h1 a q1).2 _ q3,q4,q5,q6⟩
theorem zcw.no {k i:Nat} {b:Addr} {c:Cell} (h:zcw H ι Ω k i b) (hc:Ω[k]? = some c) (hn:c.noOwn=true):False:=by
 obtain ⟨a,cls,fs,C,dx,ws,g,h',fd,q1,q2,q3,q4,q5,q6⟩:=h
 rw [hc] at q2
 cases q2
 simp only [Cell.noOwn,List.all_eq_true] at hn
 have:=hn _ (List.mem_of_getElem? q4)
 simp only [] at this
 rw [q5] at this
 cases this
theorem Wd.grow (w:Wd K G ι Ω H) (s:Same H H'):Wd K G ι Ω H' where
 sub:=w.sub.trans s
 inj:=w.inj
 len:=w.len
 live:=fun a ha=>let ⟨o,ho⟩:=w.live a ha; ⟨o,s _ _ ho⟩
 cel:=fun k c a h1 h2=>by
  have q:=w.cel k c a h1 h2
  cases c with
  | lst ds=>obtain ⟨g,xs,h1,h2⟩:=q;exact ⟨g,xs,s _ _ h1,h2⟩
  | dct kvs=>obtain ⟨g,ws,h1,h2,h3⟩:=q;exact ⟨g,ws,s _ _ h1,h2,h3⟩
  | ins cls fs=>obtain ⟨g,C,dx,ws,h0,h1,h2⟩:=q;exact ⟨g,C,dx,ws,h0,s _ _ h1,h2.map fun _ _ q=>q.mono (Ext.refl _ _) fun b o x y z=>⟨x,y,s _ _ z⟩⟩
  | tab x pos qual =>
   obtain ⟨g,hc,ps,h1,h2⟩:=q
   exact ⟨g,hc,ps,s _ _ h1,h2⟩
  | dead=>trivial
 sep:=fun b k i k' i' h1 h2=>by
  have back:∀ {k i},zcw H' ι Ω k i b→zcw H ι Ω k i b:=fun h=>h.to (fun a ha=>⟨ha,fun o ho=>by
   obtain ⟨o',ho'⟩:=w.live a (List.mem_of_getElem? ha)
   have:=s _ _ ho'
   rw [ho] at this;cases this;exact ho'⟩) fun _ _ q=>q
  exact w.sep b k i k' i' (back h1) (back h2)
theorem zd7 {α:Type}:∀ {l:List α} {i j:Nat} {x:α},l.Nodup→l[i]? = some x→l[j]? = some x→i=j
 | [],_,_,_,_,h,_=>by simp at h
 | y :: l,0,0,_,_,_,_=>rfl
 | y :: l,0,j + 1,x,n,h1,h2=>by
  simp at h1 h2;subst h1
  exact absurd (List.mem_of_getElem? h2) (List.nodup_cons.mp n).1
 | y :: l,i + 1,0,x,n,h1,h2=>by
  simp at h1 h2;subst h2
  exact absurd (List.mem_of_getElem? h1) (List.nodup_cons.mp n).1
 | y :: l,i + 1,j + 1,x,n,h1,h2=>by
  simp at h1 h2
  rw [zd7 (List.nodup_cons.mp n).2 h1 h2]
theorem zcP {α:Type} {l:List α} {k:Nat} {x:α} (h:l[k]? = some x):x ∈ l:=List.mem_of_getElem? h
theorem Ext.new (hp:G p=none) (o:HO):Ext G ι (upd G p o) ι:=⟨Same.new hp,fun _ _ h=>h⟩
theorem Wd.new (w:Wd K G ι Ω H) (hp:H p=none) (o:HO):Wd K (upd G p o) ι Ω (upd H p o) where
 sub:=fun b u h=>by
  by_cases e:b=p
  ·subst e;rw [zaG] at h ⊢;exact h
  ·rw [zaj e] at h ⊢;exact w.sub _ _ h
 inj:=w.inj
 len:=w.len
 live:=fun a ha=>by rw [zaj (w.ne hp ha)];exact w.live a ha
 cel:=fun k c a h1 h2=>by
  have n:=w.ne hp (zcP h2)
  exact (w.cel k c a h1 h2).mono (Ext.new (w.zgL hp) o) (zaj n) (zaj n) fun b u x y z=>by
   have nb:b ≠ p:=zaB z hp
   exact ⟨x,by rw [zaj nb];exact y,by rw [zaj nb];exact z⟩
 sep:=fun b k i k' i' h1 h2=>by
  have back:∀ {k i},zcw (upd H p o) ι Ω k i b→zcw H ι Ω k i b:=fun h=>h.to (fun a ha=>⟨ha,fun u hu=>by rwa [zaj (w.ne hp (List.mem_of_getElem? ha))] at hu⟩) fun _ _ q=>q
  exact w.sep b k i k' i' (back h1) (back h2)
theorem Ext.cell (x:Addr):Ext G ι G (ι ++ [x]):=⟨Same.refl _,fun k a h=>by
 rw [List.getElem?_append_left (List.getElem?_eq_some_iff.mp h).1];exact h⟩
theorem Wd.cell (w:Wd K G ι Ω H) (hp:H p=none) {o:HO} {c:Cell} (hc:zc7 K G (ι ++ [p]) (upd H p o) p c) (hno:c.noOwn=true:=by rfl):Wd K G (ι ++ [p]) (Ω ++ [c]) (upd H p o) where
 sub:=fun b u h=>by
  have e:b ≠ p:=fun e=>by subst e;rw [w.sub _ _ h] at hp;cases hp
  rw [zaj e];exact w.sub _ _ h
 inj:=by
  rw [List.nodup_append]
  exact ⟨w.inj,by simp,fun a ha b hb=>by simp at hb;subst hb;exact w.ne hp ha⟩
 len:=by simp [w.len]
 live:=fun a ha=>by
  rcases List.mem_append.mp ha with h | h
  ·rw [zaj (w.ne hp h)];exact w.live a h
  ·simp at h;subst h;exact ⟨o,zaG⟩
 cel:=fun k c' a h1 h2=>by
  by_cases hk:k < ι.length
  ·rw [List.getElem?_append_left hk] at h2
   rw [List.getElem?_append_left (by rw [← w.len];exact hk)] at h1
   exact (w.cel k c' a h1 h2).mono (Ext.cell p) rfl (zaj (w.ne hp (zcP h2))) fun b u x y z=>by
    have nb:b ≠ p:=zaB z hp
    exact ⟨by simp [x,nb],y,by rw [zaj nb];exact z⟩
  ·have hk2:k=ι.length:=by
    have:=(List.getElem?_eq_some_iff.mp h2).1
    simp at this;omega
   subst hk2
   simp at h2;subst h2
   rw [w.len] at h1
   simp at h1;subst h1
   exact hc
 sep:=fun b k i k' i' h1 h2=>by
  have back:∀ {k i},zcw (upd H p o) (ι ++ [p]) (Ω ++ [c]) k i b→zcw H ι Ω k i b:=fun {k i} h=>by
   have h0:=h
   obtain ⟨a,cls,fs,C,dx,ws,g,h',fd,q1,q2,q3,q4,q5,q6⟩:=h
   by_cases hk:k < Ω.length
   ·rw [List.getElem?_append_left hk] at q2
    rw [List.getElem?_append_left (by rw [w.len];exact hk)] at q1
    rw [zaj (w.ne hp (zcP q1))] at q3
    exact ⟨a,cls,fs,C,dx,ws,g,h',fd,q1,q2,q3,q4,q5,q6⟩
   ·have hk2:k=Ω.length:=by
     have:=(List.getElem?_eq_some_iff.mp q2).1
     simp at this;omega
    subst hk2
    exact (h0.no (by simp) hno).elim
  exact w.sep b k i k' i' (back h1) (back h2)
theorem Wd.put (w:Wd K G ι Ω H) {k:Nat} {c:Cell} {o:HO} (hk:ι[k]? = some a) (hg:G a=none) (hc:zc7 K G ι (upd H a o) a c) (hno:c.noOwn=true:=by rfl):Wd K G ι (Ω.set k c) (upd H a o) where
 sub:=fun b u h=>by
  have e:b ≠ a:=fun e=>by subst e;rw [hg] at h;cases h
  rw [zaj e];exact w.sub _ _ h
 inj:=w.inj
 len:=by rw [List.length_set];exact w.len
 live:=fun b hb=>by
  by_cases e:b=a
  ·subst e;exact ⟨o,zaG⟩
  ·rw [zaj e];exact w.live b hb
 cel:=fun j c' b h1 h2=>by
  by_cases hj:j=k
  ·subst hj
   rw [hk] at h2;cases h2
   have hl:j < Ω.length:=by rw [← w.len];exact (List.getElem?_eq_some_iff.mp hk).1
   rw [List.getElem?_set_self hl] at h1
   cases h1;exact hc
  ·rw [List.getElem?_set_ne (Ne.symm hj)] at h1
   have hne:b ≠ a:=fun e=>by
    subst e
    exact hj (zd7 w.inj h2 hk)
   exact (w.cel j c' b h1 h2).mono (Ext.refl _ _) rfl (zaj hne) fun b u x y z=>by
    have nb:b ≠ a:=fun e=>by subst e;exact x (zcP hk)
    exact ⟨x,y,by rw [zaj nb];exact z⟩
 sep:=fun b j i j' i' h1 h2=>by
  have back:∀ {j i},zcw (upd H a o) ι (Ω.set k c) j i b→zcw H ι Ω j i b:=fun {j i} h=>by
   have h0:=h
   obtain ⟨a',cls,fs,C,dx,ws,g,h',fd,q1,q2,q3,q4,q5,q6⟩:=h
   by_cases hj:j=k
   ·subst hj
    have hl:j < Ω.length:=by rw [← w.len];exact (List.getElem?_eq_some_iff.mp hk).1
    exact (h0.no (by rw [List.getElem?_set_self hl]) hno).elim
   ·rw [List.getElem?_set_ne (Ne.symm hj)] at q2
    have hne:a' ≠ a:=fun e=>by subst e;exact hj (zd7 w.inj q1 hk)
    rw [zaj hne] at q3
    exact ⟨a',cls,fs,C,dx,ws,g,h',fd,q1,q2,q3,q4,q5,q6⟩
  exact w.sep b j i j' i' (back h1) (back h2)
theorem Wd.freeze (w:Wd K G ι Ω H) {k:Nat} {o:HO} (hk:ι[k]? = some a) (hg:G a=none) (ho:H a=some o):Wd K (upd G a o) ι (Ω.set k .dead) H where
 sub:=fun b u h=>by
  by_cases e:b=a
  ·subst e;rw [zaG] at h;cases h;exact ho
  ·rw [zaj e] at h;exact w.sub _ _ h
 inj:=w.inj
 len:=by rw [List.length_set];exact w.len
 live:=w.live
 cel:=fun j c' b h1 h2=>by
  by_cases hj:j=k
  ·subst hj
   have hl:j < Ω.length:=by rw [← w.len];exact (List.getElem?_eq_some_iff.mp hk).1
   rw [List.getElem?_set_self hl] at h1
   cases h1;trivial
  ·rw [List.getElem?_set_ne (Ne.symm hj)] at h1
   have hne:b ≠ a:=fun e=>by
    subst e
    exact hj (zd7 w.inj h2 hk)
   exact (w.cel j c' b h1 h2).mono (Ext.new hg o) (zaj hne) rfl fun b u x y z=>by
    have nb:b ≠ a:=fun e=>by subst e;exact x (zcP hk)
    exact ⟨x,by rw [zaj nb];exact y,z⟩
 sep:=fun b j i j' i' h1 h2=>by
  have back:∀ {j i},zcw H ι (Ω.set k .dead) j i b→zcw H ι Ω j i b:=fun {j i} h=>by
   have h0:=h
   obtain ⟨a',cls,fs,C,dx,ws,g,h',fd,q1,q2,q3,q4,q5,q6⟩:=h
   by_cases hj:j=k
   ·subst hj
    have hl:j < Ω.length:=by rw [← w.len];exact (List.getElem?_eq_some_iff.mp hk).1
    exact (h0.no (by rw [List.getElem?_set_self hl]) rfl).elim
   ·rw [List.getElem?_set_ne (Ne.symm hj)] at q2
    exact ⟨a',cls,fs,C,dx,ws,g,h',fd,q1,q2,q3,q4,q5,q6⟩
  exact w.sep b j i j' i' (back h1) (back h2)
end
def EnvR (K:PySem.W.Frag) (G:Hp) (ι:List Addr) (σ:L2.St) (ρ:Ev):Prop:=σ.length=ρ.length∧∀ (i:Nat) (d:A),ρ[i]? = some (some d)→∃ v,σ[i]? = some (some v)∧Den K G ι v d
theorem EnvR.ext {K:PySem.W.Frag} {G G':Hp} {ι ι':List Addr} {σ:L2.St} {ρ:Ev} (r:EnvR K G ι σ ρ) (e:Ext G ι G' ι'):EnvR K G' ι' σ ρ:=⟨r.1,fun i d h=>let ⟨v,h1,h2⟩:=r.2 i d h; ⟨v,h1,h2.ext e⟩⟩
theorem EnvR.set {K:PySem.W.Frag} {G:Hp} {ι:List Addr} {σ:L2.St} {ρ:Ev} (r:EnvR K G ι σ ρ) (j:Nat) {v:V} {d:A} (h:Den K G ι v d):EnvR K G ι (σ.set j (some v)) (ρ.set j (some d)):=by
 refine ⟨by rw [List.length_set,List.length_set];exact r.1,fun i e he=>?_⟩
 by_cases hij:i=j
 ·subst hij
  have hl:i < ρ.length:=by
   have:=(List.getElem?_eq_some_iff.mp he).1
   rwa [List.length_set] at this
  rw [List.getElem?_set_self hl] at he
  cases he
  exact ⟨v,List.getElem?_set_self (by rw [r.1];exact hl),h⟩
 ·rw [List.getElem?_set_ne (Ne.symm hij)] at he ⊢
  exact r.2 i e he
theorem EnvR.unset {K:PySem.W.Frag} {G:Hp} {ι:List Addr} {σ:L2.St} {ρ:Ev} (r:EnvR K G ι σ ρ) (j:Nat) (o:Option V):EnvR K G ι (σ.set j o) (ρ.set j none):=by
 refine ⟨by rw [List.length_set,List.length_set];exact r.1,fun i e he=>?_⟩
 by_cases hij:i=j
 ·subst hij
  have hl:i < ρ.length:=by
   have:=(List.getElem?_eq_some_iff.mp he).1
   rwa [List.length_set] at this
  rw [List.getElem?_set_self hl] at he
  cases he
 ·rw [List.getElem?_set_ne (Ne.symm hij)] at he ⊢
  exact r.2 i e he
def ExcR (K:PySem.W.Frag) (G:Hp) (ι:List Addr) (H:Hp) (x:Exc) (cls:Value) (dx:Option Addr):Prop :=
 (∃ C,PySem.W.nsIn K mainGlobals x.cls=some (some (.ref C))∧cls = .ref C)∧((x.fs=[]∧dx=none)∨∃ d f i,dx=some d∧x.fs=[(f, .int i)]∧G d=some (.xd [(f, .int i)]))
abbrev Rl (α β:Type):=Hp→List Addr→β→α→Prop
def Post {α β:Type} (K:PySem.W.Frag) (rel:Rl α β) (W:WX) (G:Hp) (ι:List Addr) (σ:L2.St) (Q:β→Hp→Prop):Option (Rs α × Sto)→Prop
 | some (.ok a,Ω')=>∀ v H' G' ι',Ext G ι G' ι'→Wd K G' ι' Ω' H'→rel G' ι' v a→Q v H'
 | some (.exc x,Ω')=>∀ cls dx H' G' ι',Ext G ι G' ι'→Wd K G' ι' Ω' H'→ExcR K G' ι' H' x cls dx→W σ cls dx H'
 | none=>False
theorem Post.ext {α β:Type} {K:PySem.W.Frag} {rel:Rl α β} {W:WX} {G G1:Hp} {ι ι1:List Addr} {σ:L2.St} {Q:β→Hp→Prop} {r:Option (Rs α × Sto)} (h:Post K rel W G ι σ Q r) (e:Ext G ι G1 ι1):Post K rel W G1 ι1 σ Q r:=by
 match r,h with
 | some (.ok a,Ω'),h=>exact fun v H' G' ι' x w d=>h v H' G' ι' (e.trans x) w d
 | some (.exc x,Ω'),h=>exact fun cls dx H' G' ι' x w d=>h cls dx H' G' ι' (e.trans x) w d
theorem Post.mb {α β γ δ:Type} {K:PySem.W.Frag} {rel:Rl α β} {rel':Rl γ δ} {W:WX} {G:Hp} {ι:List Addr} {σ:L2.St} {Q:δ→Hp→Prop} {Q1:β→Hp→Prop} {m:Mo α} {k:α→Mo γ} {Ω:Sto} (h:Post K rel' W G ι σ Q (mb m k Ω))
  (hk:∀ a Ω1 v H1 G1 ι1,Ext G ι G1 ι1→Wd K G1 ι1 Ω1 H1→rel G1 ι1 v a→Post K rel' W G1 ι1 σ Q (k a Ω1)→Q1 v H1):Post K rel W G ι σ Q1 (m Ω):=by
 unfold V2.mb at h
 revert h
 generalize m Ω=r
 intro h
 match r,h with
 | some (.ok a,Ω1),h=>exact fun v H1 G1 ι1 x w d=>hk a Ω1 v H1 G1 ι1 x w d (Post.ext h x)
 | some (.exc x,Ω1),h=>exact h
theorem Post.need {α β γ:Type} {K:PySem.W.Frag} {rel':Rl α β} {W:WX} {G:Hp} {ι:List Addr} {σ:L2.St} {Q:β→Hp→Prop} {o:Option γ} {k:γ→Mo α} {Ω:Sto} (h:Post K rel' W G ι σ Q (V2.mb (need o) k Ω)):∃ a,o=some a∧Post K rel' W G ι σ Q (k a Ω):=by
 cases o with
 | none=>exact False.elim h
 | some a=>exact ⟨a,rfl,h⟩
theorem Post.chk {α β:Type} {K:PySem.W.Frag} {rel':Rl α β} {W:WX} {G:Hp} {ι:List Addr} {σ:L2.St} {Q:β→Hp→Prop} {p:Prop} [Decidable p] {k:Unit→Mo α} {Ω:Sto} (h:Post K rel' W G ι σ Q (V2.mb (chk p) k Ω)):p∧Post K rel' W G ι σ Q (k () Ω):=by
 unfold V2.mb V2.chk at h
 by_cases hp:p
 ·rw [if_pos hp] at h;exact ⟨hp,h⟩
 ·rw [if_neg hp] at h;exact False.elim h
def Sim {α β:Type} (K:PySem.W.Frag) (rel:Rl α β) (W:WX) (t:L2.St→Hp→(β→Hp→Prop)→Prop) (f:Ev→Mo α):Prop :=
 ∀ G ι Ω H σ ρ Q,Wd K G ι Ω H→EnvR K G ι σ ρ→Post K rel W G ι σ Q (f ρ Ω)→t σ H Q
def relB:Rl Bool Bool:=fun _ _ b c=>b=c
def VE (X:Cx) (W:WX) (e:Expr) (f:Ev→Mo A):Prop:=∃ t,PE X e t∧Sim X.K (Den X.K) W t f
def VT (X:Cx) (W:WX) (e:Expr) (f:Ev→Mo Bool):Prop:=∃ t,PT X e t∧Sim X.K relB W t f
def VW (X:Cx) (W:WX) (e:Expr) (f:Ev→Mo Bool):Prop:=∃ t,PW X e t∧Sim X.K relB W t f
def VA (X:Cx) (W:WX) (es:List Expr) (f:Ev→Mo (List A)):Prop:=∃ t,PA X es t∧Sim X.K (DenL X.K) W t f
end V2
namespace V2
open PySem PySem.Spec PyProof.Rows L2
section
variable {K:PySem.W.Frag} {G H:Hp} {ι:List Addr} {Ω:Sto} {v:V} {a:A}
def zao (Ω:Sto):A→Option (List A)
 | .lst ds=>some ds
 | .scr ns=>some (ns.map A.int)
 | .cel k=>match Ω[k]? with
  | some (.lst ds)=>some ds
  | _=>none
 | _=>none
def zbG (Ω:Sto):A→Option (List A)
 | .tup ds=>some ds
 | a=>zao Ω a
theorem zbt (w:Wd K G ι Ω H) (d:Den K G ι v a) {ds:List A} (h:zao Ω a=some ds):∃ p xs,v = .ref p∧SqL K H p xs∧DenL K G ι xs ds:=by
 cases a with
 | lst es =>
  simp only [zao,Option.some.injEq] at h;subst h
  simp only [Den] at d
  obtain ⟨p,xs,h1,h2,h3⟩:=d
  exact ⟨p,xs,h1,SqL.of (w.sub _ _ h2),h3⟩
 | scr ns =>
  simp only [zao,Option.some.injEq] at h;subst h
  simp only [Den] at d
  obtain ⟨p,h1,h2⟩:=d
  exact ⟨p,_,h1,w.sub.seq h2,zhf ns⟩
 | cel k =>
  simp only [zao] at h
  cases e:Ω[k]? with
  | none=>rw [e] at h;cases h
  | some c =>
   rw [e] at h
   cases c with
   | lst es =>
    simp only [Option.some.injEq] at h;subst h
    simp only [Den] at d
    obtain ⟨p,h1,h2⟩:=d
    obtain ⟨g,xs,h3,h4⟩:=w.cel k _ p e h2
    exact ⟨p,xs,h1,SqL.of h3,h4⟩
   | _=>cases h
 | _=>simp [zao] at h
theorem zfL (w:Wd K G ι Ω H) (d:Den K G ι v a) {ds:List A} (h:zbG Ω a=some ds):∃ p xs,v = .ref p∧(SqL K H p xs∨SqT K H p xs)∧DenL K G ι xs ds:=by
 cases a with
 | tup es =>
  simp only [zbG,Option.some.injEq] at h;subst h
  simp only [Den] at d
  obtain ⟨p,xs,h1,h2,h3⟩:=d
  exact ⟨p,xs,h1, .inr (SqT.of (w.sub _ _ h2)),h3⟩
 | _ =>
  obtain ⟨p,xs,h1,h2,h3⟩:=zbt w d h
  exact ⟨p,xs,h1, .inl h2,h3⟩
theorem zjc (w:Wd K G ι Ω H) (d:Den K G ι v a) {ds:List A} (h:zao Ω a=some ds) (hs:∀ ns,a ≠ .scr ns):∃ p xs,v = .ref p∧H p=some (.lst xs)∧DenL K G ι xs ds:=by
 cases a with
 | lst es =>
  simp only [zao,Option.some.injEq] at h;subst h
  simp only [Den] at d
  obtain ⟨p,xs,h1,h2,h3⟩:=d
  exact ⟨p,xs,h1,w.sub _ _ h2,h3⟩
 | scr ns=>exact absurd rfl (hs ns)
 | cel k =>
  simp only [zao] at h
  cases e:Ω[k]? with
  | none=>rw [e] at h;cases h
  | some c =>
   rw [e] at h
   cases c with
   | lst es =>
    simp only [Option.some.injEq] at h;subst h
    simp only [Den] at d
    obtain ⟨p,h1,h2⟩:=d
    obtain ⟨g,xs,h3,h4⟩:=w.cel k _ p e h2
    exact ⟨p,xs,h1,h3,h4⟩
   | _=>cases h
 | _=>simp [zao] at h
end
@[simp] def mkL (c:Bool) (ds:List A):Mo A:=fun Ω=>if c then some (.ok (.cel Ω.length),Ω ++ [.lst ds]) else some (.ok (.lst ds),Ω)
section
variable {K:PySem.W.Frag} {G H:Hp} {ι:List Addr} {Ω:Sto} {W:WX} {σ:L2.St} {Q:VK}
theorem ziN {c:Bool} {ds:List A} {xs:List V} {p:Addr} (w:Wd K G ι Ω H) (hp:H p=none) (d:DenL K G ι xs ds) (h:Post K (Den K) W G ι σ Q (mkL c ds Ω)):Q (.ref p) (upd H p (.lst xs)):=by
 cases c with
 | true =>
  refine h _ _ G (ι ++ [p]) (Ext.cell p) (w.cell hp ⟨w.zgL hp,xs,zaG,d.ext (Ext.cell p)⟩) ?_
  simp only [Den]
  exact ⟨p,rfl,by rw [← w.len];simp⟩
 | false =>
  refine h _ _ _ _ (Ext.new (w.zgL hp) (.lst xs)) (w.new hp _) ?_
  simp only [Den]
  exact ⟨p,xs,rfl,zaG,d.ext (Ext.new (w.zgL hp) _)⟩
@[simp] def mkT (ds:List A):Mo A:=ret (.tup ds)
theorem ziU {ds:List A} {xs:List V} {p:Addr} (w:Wd K G ι Ω H) (hp:H p=none) (d:DenL K G ι xs ds) (h:Post K (Den K) W G ι σ Q (mkT ds Ω)):Q (.ref p) (upd H p (.tup xs)):=by
 refine h _ _ _ _ (Ext.new (w.zgL hp) (.tup xs)) (w.new hp _) ?_
 simp only [Den]
 exact ⟨p,xs,rfl,zaG,d.ext (Ext.new (w.zgL hp) _)⟩
theorem zax {α β:Type} {rel:Rl α β} {Q:β→Hp→Prop} {a:α} {b:β} (w:Wd K G ι Ω H) (d:rel G ι b a) (h:Post K rel W G ι σ Q (ret a Ω)):Q b H:=h b H G ι (Ext.refl _ _) w d
end
section
variable {X:Cx} {W:WX} {e a b:Expr} {es:List Expr} {pos:Pos} {fa fb:Ev→Mo A} {fs:Ev→Mo (List A)}
@[simp] def vVar (i:Nat):Ev→Mo A:=fun ρ=>need (ρ[i]?).join
theorem join_some {α:Type} {o:Option (Option α)} {x:α} (h:o.join=some x):o=some (some x):=by
 cases o with
 | none=>cases h
 | some y=>cases y with
  | none=>cases h
  | some z=>cases h;rfl
theorem znQ {K:PySem.W.Frag} {i:Nat}:Sim K (Den K) W (tVar i) (vVar i):=by
 intro G ι Ω H σ ρ Q w r h
 unfold vVar need at h
 cases e:(ρ[i]?).join with
 | none=>rw [e] at h;exact False.elim h
 | some d =>
  rw [e] at h
  obtain ⟨v,h1,h2⟩:=r.2 i d (join_some e)
  exact ⟨v,h1,h v H G ι (Ext.refl _ _) w h2⟩
theorem vv (i:Nat) {x:Str} (hN:X.N[i]? = some x:=by rfl) (hv:Vis X.env.scope x:=by first | exact Or.inl rfl | exact Or.inr (Or.inl rfl) | exact Or.inr (Or.inr rfl)) (hd:(x == ("__debug__" : Str))=false:=by decide)
  (hcd:(x == ("__classdict__" : Str))=false:=by decide):VE X W (.Name x pos) (vVar i):=⟨_,zf5 hN hv hd hcd,znQ⟩
@[simp] def vFrz (i:Nat):Ev→Mo A:=fun ρ Ω=>match (ρ[i]?).join with
 | some (.cel k)=>match Ω[k]? with
  | some (.lst ds)=>some (.ok (.lst ds),Ω.set k .dead)
  | _=>none
 | _=>none
theorem znG {K:PySem.W.Frag} {i:Nat}:Sim K (Den K) W (tVar i) (vFrz i):=by
 intro G ι Ω H σ ρ Q w r h
 unfold vFrz at h
 cases e:(ρ[i]?).join with
 | none=>rw [e] at h;exact False.elim h
 | some d =>
  rw [e] at h
  cases d with
  | cel k =>
   simp only at h
   cases e2:Ω[k]? with
   | none=>rw [e2] at h;exact False.elim h
   | some c =>
    rw [e2] at h
    cases c with
    | lst ds =>
     obtain ⟨v,h1,h2⟩:=r.2 i _ (join_some e)
     simp only [Den] at h2
     obtain ⟨p,rfl,h4⟩:=h2
     obtain ⟨g,xs,h5,h6⟩:=w.cel k _ p e2 h4
     refine ⟨_,h1,h _ H (upd G p (.lst xs)) ι (Ext.new g _) (w.freeze h4 g h5) ?_⟩
     simp only [Den]
     exact ⟨p,xs,rfl,zaG,h6.ext (Ext.new g _)⟩
    | _=>exact False.elim h
  | _=>exact False.elim h
theorem vf (i:Nat) {x:Str} (hN:X.N[i]? = some x:=by rfl) (hv:Vis X.env.scope x:=by first | exact Or.inl rfl | exact Or.inr (Or.inl rfl) | exact Or.inr (Or.inr rfl)) (hd:(x == ("__debug__" : Str))=false:=by decide)
  (hcd:(x == ("__classdict__" : Str))=false:=by decide):VE X W (.Name x pos) (vFrz i):=⟨_,zf5 hN hv hd hcd,znG⟩
theorem zix {K:PySem.W.Frag} {v:V} {d:A} (h:∀ G ι,Den K G ι v d):Sim K (Den K) W (tC v) (fun _=>ret d):=fun G ι _ _ _ _ _ w _ q=>zax w (h G ι) q
theorem zae {i:Int} {j}:VE X W (.Constant (.int i) j pos) (fun _=>ret (.int i)):=⟨_,zpT,zix fun _ _=>by simp only [Den]⟩
theorem zhQ {i:Bool} {j}:VE X W (.Constant (.bool i) j pos) (fun _=>ret (.bl i)):=⟨_,zqS,zix fun _ _=>by simp only [Den]⟩
theorem zf3 {j}:VE X W (.Constant .none j pos) (fun _=>ret .non):=⟨_,zpu,zix fun _ _=>by simp only [Den]⟩
theorem zar {x:Str} {j}:VE X W (.Constant (.str x) j pos) (fun _=>ret (.str x)):=⟨_,zoL,zix fun _ _=>by simp only [Den]⟩
theorem znv {x:Str} {p:Addr} (hg:Gl X x) (hm:X.mg x=some (.ref p)) (hK:PySem.W.nsIn X.K mainGlobals x=some (some (.ref p))) (hd:(x == ("__debug__" : Str))=false:=by decide):VE X W (.Name x pos) (fun _=>ret (.gl x)) :=
 ⟨_,zlh (v := .ref p) hg hm rfl hd,zix fun _ _=>by simp only [Den];exact ⟨p,hK,rfl⟩⟩
theorem zmk {x:Str} {i:Int} (hg:Gl X x) (hm:∃ t,X.mg x=some (.int i t)) (hd:(x == ("__debug__" : Str))=false:=by decide):VE X W (.Name x pos) (fun _=>ret (.int i)):=by
 obtain ⟨t,hm⟩:=hm
 exact ⟨_,zlh (v := .int i) hg hm ⟨t,rfl⟩ hd,zix fun _ _=>by simp only [Den]⟩
theorem zmj {x:Str} {n:String} (hg:Gl X x) (hm:X.mg x=none) (hv:bootBuiltins x=some (.type n)) (hn:x ≠ "__name__":=by decide) (hd:(x == ("__debug__" : Str))=false:=by decide):VE X W (.Name x pos) (fun _=>ret (.ty n)) :=
 ⟨_,zmR (v := .ty n) hg hm hv rfl hn hd,zix fun _ _=>by simp only [Den]⟩
theorem zad:VA X W [] (fun _=>ret []):=⟨_,zk8,fun _ _ _ _ _ _ _ w _ q=>zax w .nil q⟩
@[simp] def zac (f:Ev→Mo A) (g:Ev→Mo (List A)):Ev→Mo (List A):=fun ρ=>mb (f ρ) fun x=>mb (g ρ) fun xs=>ret (x :: xs)
theorem zaa (h1:VE X W e fa) (h2:VA X W es fs) (hs:starEach (e :: es) X.env=(false,eval e X.env) :: starEach es X.env:=by rfl):VA X W (e :: es) (zac fa fs):=by
 obtain ⟨t,p1,s1⟩:=h1
 obtain ⟨u,p2,s2⟩:=h2
 refine ⟨_,zgn p1 p2 hs,fun G ι Ω H σ ρ Q w r h=>?_⟩
 refine s1 G ι Ω H σ ρ _ w r (Post.mb h fun x Ω1 v H1 G1 ι1 x1 w1 d1 h1=>?_)
 refine s2 G1 ι1 Ω1 H1 σ ρ _ w1 (r.ext x1) (Post.mb h1 fun xs Ω2 vs H2 G2 ι2 x2 w2 d2 h2=>?_)
 exact zax w2 (.cons (d1.ext x2) d2) h2
@[simp] def vTup (g:Ev→Mo (List A)):Ev→Mo A:=fun ρ=>mb (g ρ) fun xs=>mb (chk (xs.length ≤ sizeLine)) fun _=>mkT xs
theorem zmM {k} (h:VA X W es fs):VE X W (.Tuple es k pos) (vTup fs):=by
 obtain ⟨t,p,s⟩:=h
 refine ⟨_,zpK p,fun G ι Ω H σ ρ Q w r h=>?_⟩
 refine s G ι Ω H σ ρ _ w r (Post.mb h fun xs Ω1 vs H1 G1 ι1 x1 w1 d1 h1=>?_)
 obtain ⟨hl,h2⟩:=Post.chk h1
 exact ⟨by rw [d1.length];exact hl,fun p hp=>ziU w1 hp d1 h2⟩
@[simp] def vLst (c:Bool) (g:Ev→Mo (List A)):Ev→Mo A:=fun ρ=>mb (g ρ) fun xs=>mb (chk (xs.length ≤ sizeLine)) fun _=>mkL c xs
theorem zbq (c:Bool) (h:VA X W es fs):VE X W (.List es pos) (vLst c fs):=by
 obtain ⟨t,p,s⟩:=h
 refine ⟨_,zoJ p,fun G ι Ω H σ ρ Q w r h=>?_⟩
 refine s G ι Ω H σ ρ _ w r (Post.mb h fun xs Ω1 vs H1 G1 ι1 x1 w1 d1 h1=>?_)
 obtain ⟨hl,h2⟩:=Post.chk h1
 exact ⟨by rw [d1.length];exact hl,fun p hp=>ziN w1 hp d1 h2⟩
def OpV (K:PySem.W.Frag) (W:WX) (r:R2) (g:A→A→Mo A):Prop :=
 ∀ G ι Ω H σ x y a b Q,Wd K G ι Ω H→Den K G ι x a→Den K G ι y b→Post K (Den K) W G ι σ Q (g a b Ω)→r x y H Q
def OpOk (X:Cx) (W:WX) (f:Value→Value→Sem Value) (g:A→A→Mo A):Prop:=∃ r,OpR X f r∧OpV X.K W r g
@[simp] def vOp (g:A→A→Mo A) (f h:Ev→Mo A):Ev→Mo A:=fun ρ=>mb (f ρ) fun x=>mb (h ρ) fun y=>g x y
theorem zgY {K:PySem.W.Frag} {r:R2} {g:A→A→Mo A} {ta tb:TE} (ho:OpV K W r g) (h1:Sim K (Den K) W ta fa) (h2:Sim K (Den K) W tb fb):Sim K (Den K) W (tOp r ta tb) (vOp g fa fb):=by
 intro G ι Ω H σ ρ Q w q h
 refine h1 G ι Ω H σ ρ _ w q (Post.mb h fun x Ω1 v H1 G1 ι1 x1 w1 d1 h1=>?_)
 refine h2 G1 ι1 Ω1 H1 σ ρ _ w1 (q.ext x1) (Post.mb h1 fun y Ω2 u H2 G2 ι2 x2 w2 d2 h2=>?_)
 exact ho G2 ι2 Ω2 H2 σ v u x y Q w2 (d1.ext x2) d2 h2
theorem zal {op:Operator} {g:A→A→Mo A} (ho:OpOk X W (binaryOp op) g) (ha:VE X W a fa) (hb:VE X W b fb):VE X W (.BinOp a op b pos) (vOp g fa fb):=by
 obtain ⟨r,o1,o2⟩:=ho
 obtain ⟨t,p1,s1⟩:=ha
 obtain ⟨u,p2,s2⟩:=hb
 exact ⟨_,zqj o1 p1 p2,zgY o2 s1 s2⟩
@[simp] def gI (C:Int→Int→Prop) [∀ i j,Decidable (C i j)] (g:Int→Int→A):A→A→Mo A
 | .int i, .int j=>mb (chk (C i j)) fun _=>ret (g i j)
 | _,_=>stuck
theorem zlS {K:PySem.W.Frag} {C:Int→Int→Prop} [∀ i j,Decidable (C i j)] {g:Int→Int→V} {g':Int→Int→A} (hg:∀ G ι i j,Den K G ι (g i j) (g' i j)):OpV K W (rI C g) (gI C g'):=by
 intro G ι Ω H σ x y a b Q w d1 d2 h
 cases a with
 | int i =>
  cases b with
  | int j =>
   simp only [Den] at d1 d2
   obtain ⟨hc,h2⟩:=Post.chk h
   exact ⟨i,j,d1,d2,hc,zax w (hg _ _ _ _) h2⟩
  | _=>exact False.elim h
 | _=>exact False.elim h
@[simp] def gI0 (g:Int→Int→A):A→A→Mo A
 | .int i, .int j=>ret (g i j)
 | _,_=>stuck
theorem zll {K:PySem.W.Frag} {g:Int→Int→V} {g':Int→Int→A} (hg:∀ G ι i j,Den K G ι (g i j) (g' i j)):OpV K W (rI0 g) (gI0 g'):=by
 intro G ι Ω H σ x y a b Q w d1 d2 h
 cases a with
 | int i =>
  cases b with
  | int j =>
   simp only [Den] at d1 d2
   exact ⟨i,j,d1,d2,zax w (hg _ _ _ _) h⟩
  | _=>exact False.elim h
 | _=>exact False.elim h
instance:∀ i j,Decidable (CMul i j):=fun i j=>by unfold CMul;infer_instance
instance:∀ i j,Decidable (CDiv i j):=fun i j=>by unfold CDiv;infer_instance
instance:∀ i j,Decidable (CPow i j):=fun i j=>by unfold CPow;infer_instance
@[simp] def gSub:=gI0 fun i j => .int (i - j)
@[simp] def gMul:=gI CMul fun i j => .int (i * j)
@[simp] def gDiv:=gI CDiv fun i j => .int (i / j)
@[simp] def gMod:=gI (fun _ j=>0 < j) fun i j => .int (i % j)
@[simp] def gPow:=gI CPow fun i j => .int (i ^ j.toNat)
theorem zhm:OpOk X W (binaryOp .Sub) gSub:=⟨_,zoD,zll fun _ _ _ _=>by simp only [Den]⟩
theorem zjw:OpOk X W (binaryOp .Mult) gMul:=⟨_,zpQ,zlS fun _ _ _ _=>by simp only [Den]⟩
theorem zfP:OpOk X W (binaryOp .FloorDiv) gDiv:=⟨_,znx,zlS fun _ _ _ _=>by simp only [Den]⟩
theorem zdd:OpOk X W (binaryOp .Mod) gMod:=⟨_,zp8,zlS fun _ _ _ _=>by simp only [Den]⟩
theorem zpb:OpOk X W (binaryOp .Pow) gPow:=⟨_,zp0,zlS fun _ _ _ _=>by simp only [Den]⟩
@[simp] def zjO:A→Bool
 | .scr _=>true
 | _=>false
theorem zms {a:A} (h:zjO a=false):∀ ns,a ≠ .scr ns:=fun ns e=>by subst e;cases h
@[simp] def gCat (c:Bool) (a b:A):Mo A:=fun Ω=>match zao Ω a,zao Ω b with
  | some xs,some ys=>if zjO a || zjO b || decide (sizeLine < xs.length + ys.length) then none else mkL c (xs ++ ys) Ω
  | _,_=>none
@[simp] def gAdd (c:Bool):A→A→Mo A
 | .int i, .int j=>ret (.int (i + j))
 | .tup xs, .tup ys=>mb (chk (0 < xs.length∧xs.length + ys.length ≤ sizeLine)) fun _=>mkT (xs ++ ys)
 | a,b=>gCat c a b
theorem znw {K:PySem.W.Frag} {c:Bool}:OpV K W rCat (gCat c):=by
 intro G ι Ω H σ x y a b Q w d1 d2 h
 unfold gCat at h
 match e1:zao Ω a,e2:zao Ω b with
 | none,_=>rw [e1] at h;exact False.elim h
 | some xs,none=>rw [e1,e2] at h;exact False.elim h
 | some xs,some ys =>
  rw [e1,e2] at h
  simp only at h
  by_cases hb:(zjO a || zjO b || decide (sizeLine < xs.length + ys.length))=true
  ·rw [if_pos hb] at h;exact False.elim h
  ·rw [if_neg hb] at h
   simp only [Bool.or_eq_true,decide_eq_true_eq,not_or,Bool.not_eq_true] at hb
   obtain ⟨p,us,rfl,h2,h3⟩:=zjc w d1 e1 (zms hb.1.1)
   obtain ⟨q,ws,rfl,h5,h6⟩:=zjc w d2 e2 (zms hb.1.2)
   exact ⟨p,q,us,ws,rfl,rfl,h2,h5,by rw [h3.length,h6.length];omega,fun r hr=>ziN w hr (h3.append h6) h⟩
theorem zbR (c:Bool):OpOk X W (binaryOp .Add) (gAdd c):=by
 refine ⟨_,zpg.or (zpR.or znX),?_⟩
 intro G ι Ω H σ x y a b Q w d1 d2 h
 unfold gAdd at h
 split at h
 ·simp only [Den] at d1 d2
  exact .inl ⟨_,_,d1,d2,zax w (by simp only [Den]) h⟩
 ·rename_i xs ys
  simp only [Den] at d1 d2
  obtain ⟨p,us,rfl,h2,h3⟩:=d1
  obtain ⟨q,ws,rfl,h5,h6⟩:=d2
  obtain ⟨⟨c1,c2⟩,h⟩:=Post.chk h
  refine .inr (.inr ⟨p,q,us,ws,rfl,rfl,SqT.of (w.sub _ _ h2),SqT.of (w.sub _ _ h5),?_,by rw [h3.length,h6.length];exact c2,fun e=>?_,fun _ r hr=>ziU w hr (h3.append h6) h⟩)
  ·intro e
   subst e
   have:=h3.length
   simp at this
   omega
  ·subst e
   refine zax w ?_ h
   simp only [Den]
   exact ⟨p,us,rfl,h2,by simpa using h3.append h6⟩
 ·exact .inr (.inl (znw G ι Ω H σ x y _ _ Q w d1 d2 h))
end
end V2
namespace V2
open PySem PySem.Spec PyProof.Rows L2
def pur:Nat→A→Bool
 | _, .int _=>true
 | _, .bl _=>true
 | _, .non=>true
 | _, .str x=>PyData.canLay0 (.str x)
 | n + 1, .tup ds=>ds.all (pur n)
 | n + 1, .lst ds=>ds.all (pur n)
 | _,_=>false
def zhF (f:A→A→Bool):List A→List A→Bool
 | [],[]=>true
 | x :: xs,y :: ys=>f x y && zhF f xs ys
 | _,_=>false
def eqA:Nat→A→A→Bool
 | _, .int i, .int j=>i == j
 | _, .bl i, .bl j=>i == j
 | _, .bl i, .int j=>(if i then 1 else 0) == j
 | _, .int i, .bl j=>i == (if j then 1 else 0)
 | _, .non, .non=>true
 | _, .str x, .str y=>x == y
 | n + 1, .tup xs, .tup ys=>zhF (eqA n) xs ys
 | n + 1, .lst xs, .lst ys=>zhF (eqA n) xs ys
 | _,_,_=>false
def toPy:Nat→A→PyData
 | _, .int i => .int i
 | _, .bl i => .bool i
 | _, .str x => .str x
 | n + 1, .tup ds => .tuple (ds.map (toPy n))
 | n + 1, .lst ds => .list (ds.map (toPy n))
 | _,_ => .none
theorem zk6:∀ (ds:List A) (n:Nat),(∀ d ∈ ds,pur n d=true→PyData.canLay0 (toPy n d)=true)→ds.all (pur n)=true→PyData.canLayAll0 (ds.map (toPy n))=true
 | [],_,_,_=>rfl
 | d :: ds,n,ih,h=>by
  simp only [List.all_cons,Bool.and_eq_true] at h
  simp only [List.map_cons,PyData.canLayAll0,Bool.and_eq_true]
  exact ⟨ih d (List.mem_cons_self ..) h.1,zk6 ds n (fun e he=>ih e (List.mem_cons_of_mem _ he)) h.2⟩
theorem ze1:∀ (n:Nat) (a:A),pur n a=true→PyData.canLay0 (toPy n a)=true:=by
 intro n
 induction n with
 | zero=>intro a h;cases a <;> first | rfl | exact h | cases h
 | succ n ih =>
  intro a h
  cases a with
  | tup ds=>exact zk6 ds n (fun d _=>ih d) h
  | lst ds=>exact zk6 ds n (fun d _=>ih d) h
  | str x=>exact h
  | int i=>rfl
  | bl b=>rfl
  | non=>rfl
  | _=>cases h
theorem zkJ:∀ (ds:List A) (n:Nat),(∀ d ∈ ds,(toPy n d).depth ≤ n)→PyData.depthAll (ds.map (toPy n)) ≤ n
 | [],_,_=>Nat.zero_le _
 | d :: ds,n,ih=>by
  simp only [List.map_cons,PyData.depthAll]
  exact Nat.max_le.mpr ⟨ih d (List.mem_cons_self ..),zkJ ds n fun e he=>ih e (List.mem_cons_of_mem _ he)⟩
theorem zgg:∀ (n:Nat) (a:A),(toPy n a).depth ≤ n:=by
 intro n
 induction n with
 | zero=>intro a;cases a <;> exact Nat.le_refl _
 | succ n ih =>
  intro a
  cases a with
  | tup ds=>exact Nat.succ_le_succ (zkJ ds n fun d _=>ih d)
  | lst ds=>exact Nat.succ_le_succ (zkJ ds n fun d _=>ih d)
  | _=>exact Nat.zero_le _
theorem zmC:∀ (xs ys:List A) (n:Nat),(∀ x ∈ xs,∀ y ∈ ys,PyData.eqv (toPy n x) (toPy n y)=eqA n x y)→PyData.eqvAll (xs.map (toPy n)) (ys.map (toPy n))=zhF (eqA n) xs ys
 | [],[],_,_=>rfl
 | [],_ :: _,_,_=>rfl
 | _ :: _,[],_,_=>rfl
 | x :: xs,y :: ys,n,ih=>by
  simp only [List.map_cons,PyData.eqvAll,zhF]
  rw [ih x (List.mem_cons_self ..) y (List.mem_cons_self ..),zmC xs ys n fun a ha b hb=>ih a (List.mem_cons_of_mem _ ha) b (List.mem_cons_of_mem _ hb)]
theorem zjg:∀ (n:Nat) (a b:A),pur n a=true→pur n b=true→PyData.eqv (toPy n a) (toPy n b)=eqA n a b:=by
 intro n
 induction n with
 | zero=>intro a b ha hb;cases a <;> cases b <;> first | rfl | (simp [pur] at ha;done) | (simp [pur] at hb;done)
 | succ n ih =>
  intro a b ha hb
  have lst:∀ xs ys:List A,xs.all (pur n)=true→ys.all (pur n)=true→PyData.eqvAll (xs.map (toPy n)) (ys.map (toPy n))=zhF (eqA n) xs ys:=fun xs ys h1 h2 =>
   zmC xs ys n fun x hx y hy=>ih x y (List.all_eq_true.mp h1 x hx) (List.all_eq_true.mp h2 y hy)
  cases a <;> cases b <;> first | rfl | (simp [pur] at ha;done) | (simp [pur] at hb;done) | exact lst _ _ ha hb
section
variable {X:Cx} {pins:List (Addr × Obj)} {σ:L2.St} {H:Hp} {s:Shared} {ι:List Addr}
theorem readsAll (n:Nat) (ih:∀ (v:V) (u:Value) (a:A),pur n a=true→Den X.K H ι v a→RelV v u→∃ as,Reads s.heap u (toPy n a) as) :
  ∀ (ds:List A) (xs:List V) (us:List Value),ds.all (pur n)=true→DenL X.K H ι xs ds→Vals xs us→∃ as,ReadsAll s.heap us (ds.map (toPy n)) as
 | [],xs,us,_,d,r=>by
  rw [zbm] at d;subst d;cases r;exact ⟨_, .nil⟩
 | a :: ds,xs,us,h,d,r=>by
  obtain ⟨x,t,rfl,d1,d2⟩:=d.zbW
  simp only [List.all_cons,Bool.and_eq_true] at h
  cases r with
  | cons r1 r2 =>
   obtain ⟨as,q1⟩:=ih _ _ _ h.1 d1 r1
   obtain ⟨bs,q2⟩:=readsAll n ih ds _ _ h.2 d2 r2
   exact ⟨_, .cons q1 q2⟩
theorem zeZ (I:Inv X pins σ H s):∀ (n:Nat) (v:V) (u:Value) (a:A),pur n a=true→Den X.K H ι v a→RelV v u→∃ as,Reads s.heap u (toPy n a) as:=by
 intro n
 induction n with
 | zero =>
  intro v u a h d r
  cases a with
  | int i=>simp only [Den] at d;subst d;obtain ⟨t,rfl⟩:=r;exact ⟨_, .int i t⟩
  | bl b=>simp only [Den] at d;subst d;cases r;exact ⟨_, .bool b⟩
  | str x=>simp only [Den] at d;subst d;obtain ⟨t,rfl⟩:=r;exact ⟨_, .str x t⟩
  | non=>simp only [Den] at d;subst d;cases r;exact ⟨_, .none⟩
  | _=>cases h
 | succ n ih =>
  intro v u a h d r
  cases a with
  | int i=>simp only [Den] at d;subst d;obtain ⟨t,rfl⟩:=r;exact ⟨_, .int i t⟩
  | bl b=>simp only [Den] at d;subst d;cases r;exact ⟨_, .bool b⟩
  | str x=>simp only [Den] at d;subst d;obtain ⟨t,rfl⟩:=r;exact ⟨_, .str x t⟩
  | non=>simp only [Den] at d;subst d;cases r;exact ⟨_, .none⟩
  | tup ds =>
   simp only [Den] at d
   obtain ⟨p,xs,rfl,h2,h3⟩:=d
   cases r
   obtain ⟨its,rv,pl,hz⟩:=I.tuple (SqT.of h2)
   obtain ⟨as,q⟩:=readsAll n ih ds xs its h h3 rv
   obtain ⟨o,ho,hc,m,hd⟩:=(show s.heap.IsTuple p its.toArray from pl)
   exact ⟨_, .tuple ho hc hd (by simpa using q)⟩
  | lst ds =>
   simp only [Den] at d
   obtain ⟨p,xs,rfl,h2,h3⟩:=d
   cases r
   obtain ⟨its,rv,pl,hz⟩:=I.list (SqL.of h2)
   obtain ⟨as,q⟩:=readsAll n ih ds xs its h h3 rv
   obtain ⟨o,ho,hc,m,hd⟩:=pl.isList
   exact ⟨_, .list ho hc hd (by simpa using q)⟩
  | _=>cases h
end
def rEqA (K:PySem.W.Frag) (neg:Bool):R2:=fun x y H Q=>∃ ι a b,pur 8 a=true∧pur 8 b=true∧Den K H ι x a∧Den K H ι y b∧Q (.bl (if neg then !eqA 8 a b else eqA 8 a b)) H
theorem zph {X:Cx} (hu:X.A.units + 64 < cLine):OpR X (compareOp .Eq) (rEqA X.K false):=by
 intro pins s σ H x y v u Q I rx ry h
 obtain ⟨ι,a,b,h1,h2,d1,d2,q⟩:=h
 obtain ⟨as,q1⟩:=zeZ I 8 x v a h1 d1 rx
 obtain ⟨bs,q2⟩:=zeZ I 8 y u b h2 d2 ry
 have e1:=zgg 8 a
 refine SeqAt.compareEq_reads q1 q2 (ze1 8 a h1) (ze1 8 b h2) (by omega) ?_
 rw [zjg 8 a b h1 h2]
 exact ⟨.bl (eqA 8 a b),H,I,rfl,q⟩
theorem zoW {X:Cx} (hu:X.A.units + 64 < cLine):OpR X (compareOp .NotEq) (rEqA X.K true):=by
 intro pins s σ H x y v u Q I rx ry h
 obtain ⟨ι,a,b,h1,h2,d1,d2,q⟩:=h
 obtain ⟨as,q1⟩:=zeZ I 8 x v a h1 d1 rx
 obtain ⟨bs,q2⟩:=zeZ I 8 y u b h2 d2 ry
 have e1:=zgg 8 a
 refine SeqAt.compareNe_reads q1 q2 (ze1 8 a h1) (ze1 8 b h2) (by omega) ?_
 rw [zjg 8 a b h1 h2]
 exact ⟨.bl (!eqA 8 a b),H,I,rfl,q⟩
def mapO (f:A→Option A):List A→Option (List A)
 | []=>some []
 | x :: xs=>match f x,mapO f xs with
  | some y,some ys=>some (y :: ys)
  | _,_=>none
def res (Ω:Sto):Nat→A→Option A
 | 0,a=>if pur 8 a=true then some a else none
 | n + 1,a=>if pur 8 a=true then some a else match a with
  | .tup ds=>(mapO (res Ω n) ds).map .tup
  | .lst ds=>(mapO (res Ω n) ds).map .lst
  | .cel k=>match Ω[k]? with
   | some (.lst ds)=>(mapO (res Ω n) ds).map .lst
   | _=>none
  | _=>none
section
variable {K:PySem.W.Frag} {G H:Hp} {ι:List Addr} {Ω:Sto}
theorem Wd.extH (w:Wd K G ι Ω H):Ext G ι H ι:=⟨w.sub,fun _ _ h=>h⟩
theorem zgq {f:A→Option A} (ih:∀ v a b,Den K G ι v a→f a=some b→Den K H ι v b):∀ (ds es:List A) (xs:List V),DenL K G ι xs ds→mapO f ds=some es→DenL K H ι xs es
 | [],es,xs,d,h=>by
  simp only [mapO,Option.some.injEq] at h;subst h
  rw [zbm] at d ⊢;exact d
 | a :: ds,es,xs,d,h=>by
  obtain ⟨x,t,rfl,d1,d2⟩:=d.zbW
  simp only [mapO] at h
  split at h
  ·rename_i y ys e1 e2
   cases h
   exact .cons (ih _ _ _ d1 e1) (zgq ih ds ys t d2 e2)
  ·cases h
theorem zmF (w:Wd K G ι Ω H):∀ (n:Nat) (v:V) (a b:A),Den K G ι v a→res Ω n a=some b→Den K H ι v b:=by
 intro n
 induction n with
 | zero =>
  intro v a b d h
  simp only [res] at h
  split at h
  ·cases h;exact d.ext w.extH
  ·cases h
 | succ n ih =>
  intro v a b d h
  simp only [res] at h
  split at h
  ·cases h;exact d.ext w.extH
  ·split at h
   ·rename_i ds _
    simp only [Option.map_eq_some_iff] at h
    obtain ⟨es,h1,rfl⟩:=h
    simp only [Den] at d ⊢
    obtain ⟨p,xs,q1,q2,q3⟩:=d
    exact ⟨p,xs,q1,w.sub _ _ q2,zgq ih ds es xs q3 h1⟩
   ·rename_i ds _
    simp only [Option.map_eq_some_iff] at h
    obtain ⟨es,h1,rfl⟩:=h
    simp only [Den] at d ⊢
    obtain ⟨p,xs,q1,q2,q3⟩:=d
    exact ⟨p,xs,q1,w.sub _ _ q2,zgq ih ds es xs q3 h1⟩
   ·rename_i k _
    split at h
    ·rename_i ds e
     simp only [Option.map_eq_some_iff] at h
     obtain ⟨es,h1,rfl⟩:=h
     simp only [Den] at d ⊢
     obtain ⟨p,q1,q2⟩:=d
     obtain ⟨g,xs,q3,q4⟩:=w.cel k _ p e q2
     exact ⟨p,xs,q1,q3,zgq ih ds es xs q4 h1⟩
    ·cases h
   ·cases h
end
def gEqB (neg:Bool) (a b:A):Mo A:=fun Ω=>match res Ω 6 a,res Ω 6 b with
 | some x,some y=>if (pur 8 x && pur 8 y)=true then some (.ok (.bl (if neg then !eqA 8 x y else eqA 8 x y)),Ω) else none
 | _,_=>none
def gEq:=gEqB false
def gNe:=gEqB true
section
variable {X:Cx} {W:WX} {e a b c:Expr} {pos:Pos} {fa fb fc:Ev→Mo A} {ta tb:Ev→Mo Bool}
theorem zk9 {K:PySem.W.Frag} {neg:Bool}:OpV K W (rEqA K neg) (gEqB neg):=by
 intro G ι Ω H σ x y a b Q w d1 d2 h
 unfold gEqB at h
 split at h
 ·rename_i a' b' e1 e2
  split at h
  ·rename_i hp
   rw [Bool.and_eq_true] at hp
   exact ⟨ι,a',b',hp.1,hp.2,zmF w 6 x a a' d1 e1,zmF w 6 y b b' d2 e2,h _ H G ι (Ext.refl _ _) w (by simp only [Den])⟩
  ·exact False.elim h
 ·exact False.elim h
theorem o_eq (hu:X.A.units + 64 < cLine):OpOk X W (compareOp .Eq) gEq:=⟨_,zph hu,zk9⟩
theorem o_ne (hu:X.A.units + 64 < cLine):OpOk X W (compareOp .NotEq) gNe:=⟨_,zoW hu,zk9⟩
@[simp] def gLt:=gI0 fun i j => .bl (decide (i < j))
@[simp] def gGt:=gI0 fun i j => .bl (decide (j < i))
theorem o_lt:OpOk X W (compareOp .Lt) gLt:=⟨_,zqN,zll fun _ _ _ _=>by simp only [Den]⟩
theorem o_gt:OpOk X W (compareOp .Gt) gGt:=⟨_,zqO,zll fun _ _ _ _=>by simp only [Den]⟩
def zfb:A→Option Bool
 | .non=>some true
 | _=>some false
theorem zjb {K:PySem.W.Frag} {G:Hp} {ι:List Addr} {v:V} {a:A} (d:Den K G ι v a):zfb a=some (decide (v = .non)):=by
 cases a with
 | non=>simp only [Den] at d;subst d;rfl
 | tup ds=>simp only [Den] at d;obtain ⟨p,xs,rfl,_⟩:=d;rfl
 | lst ds=>simp only [Den] at d;obtain ⟨p,xs,rfl,_⟩:=d;rfl
 | scr ds=>simp only [Den] at d;obtain ⟨p,rfl,_⟩:=d;rfl
 | cel ds=>simp only [Den] at d;obtain ⟨p,rfl,_⟩:=d;rfl
 | gl x=>simp only [Den] at d;obtain ⟨p,_,rfl⟩:=d;rfl
 | exn p d' f i=>simp only [Den] at d;obtain ⟨rfl,_⟩:=d;rfl
 | _=>simp only [Den] at d;subst d;rfl
@[simp] def gIsN (neg:Bool):A→A→Mo A
 | a, .non=>mb (need (zfb a)) fun k=>ret (.bl (if neg then !k else k))
 | _,_=>stuck
theorem zqg:OpOk X W (compareOp .Is) (gIsN false):=by
 refine ⟨_,zo5,?_⟩
 intro G ι Ω H σ x y a b Q w d1 d2 h
 cases b with
 | non =>
  simp only [Den] at d2
  obtain ⟨k,e,h⟩:=Post.need h
  rw [zjb d1] at e
  cases e
  exact ⟨d2,zax w (by simp only [Den];rfl) h⟩
 | _=>exact False.elim h
theorem zmL:OpOk X W (compareOp .IsNot) (gIsN true):=by
 refine ⟨_,znY,?_⟩
 intro G ι Ω H σ x y a b Q w d1 d2 h
 cases b with
 | non =>
  simp only [Den] at d2
  obtain ⟨k,e,h⟩:=Post.need h
  rw [zjb d1] at e
  cases e
  exact ⟨d2,zax w (by simp only [Den];rfl) h⟩
 | _=>exact False.elim h
@[simp] def zlx:A→Mo Bool
 | .bl b=>ret b
 | _=>stuck
@[simp] def zaI (f:Ev→Mo A):Ev→Mo Bool:=fun ρ=>mb (f ρ) zlx
theorem ziQ {K:PySem.W.Frag} {t:TE} (h:Sim K (Den K) W t fa):Sim K relB W (zoV t) (zaI fa):=by
 intro G ι Ω H σ ρ Q w r q
 refine h G ι Ω H σ ρ _ w r (Post.mb q fun x Ω1 v H1 G1 ι1 x1 w1 d1 h1=>?_)
 cases x with
 | bl b=>simp only [Den] at d1;exact ⟨b,d1,zax w1 rfl h1⟩
 | _=>exact False.elim h1
theorem zea {op:CmpOp} {g:A→A→Mo A} (ho:OpOk X W (compareOp op) g) (ha:VE X W a fa) (hb:VE X W b fb) (hm:behindInMarks op b=false):VE X W (.Compare a [op] [b] pos) (vOp g fa fb):=by
 obtain ⟨r,o1,o2⟩:=ho
 obtain ⟨t,p1,s1⟩:=ha
 obtain ⟨u,p2,s2⟩:=hb
 exact ⟨_,zol o1 p1 p2 hm,zgY o2 s1 s2⟩
theorem zaU {op:CmpOp} {g:A→A→Mo A} (ho:OpOk X W (compareOp op) g) (ha:VE X W a fa) (hb:VE X W b fb) (hm:behindInMarks op b=false):VT X W (.Compare a [op] [b] pos) (zaI (vOp g fa fb)):=by
 obtain ⟨r,o1,o2⟩:=ho
 obtain ⟨t,p1,s1⟩:=ha
 obtain ⟨u,p2,s2⟩:=hb
 exact ⟨_,zof o1 p1 p2 hm,ziQ (zgY o2 s1 s2)⟩
theorem zeP (h:VE X W e fa) (he:∀ whole,isTrue e X.env whole=(do let v ← whole;standAt e.pos;holding [v] (truthy v)):=by intro _;rfl):VT X W e (zaI fa):=by
 obtain ⟨t,p,s⟩:=h
 exact ⟨_,zoQ p he,ziQ s⟩
@[simp] def zmS (f g:Ev→Mo Bool):Ev→Mo Bool:=fun ρ=>mb (f ρ) fun c=>if c then g ρ else ret false
@[simp] def vOrT (f g:Ev→Mo Bool):Ev→Mo Bool:=fun ρ=>mb (f ρ) fun c=>if c then ret true else g ρ
@[simp] def zgV (f:Ev→Mo Bool):Ev→Mo Bool:=fun ρ=>mb (f ρ) fun c=>ret (!c)
variable {rest:List Expr}
theorem zli (h:VT X W a ta):VW X W (.BoolOp .And [a] pos) ta:=let ⟨t,p,s⟩:=h; ⟨t,pw_and1 p,s⟩
theorem ze7 (h:VT X W a ta):VW X W (.BoolOp .Or [a] pos) ta:=let ⟨t,p,s⟩:=h; ⟨t,pw_or1 p,s⟩
theorem zmz (h1:VT X W a ta) (h2:VW X W (.BoolOp .And (b :: rest) pos) tb):VW X W (.BoolOp .And (a :: b :: rest) pos) (zmS ta tb):=by
 obtain ⟨t,p1,s1⟩:=h1
 obtain ⟨u,p2,s2⟩:=h2
 refine ⟨_,pw_and p1 p2,fun G ι Ω H σ ρ Q w r h=>?_⟩
 refine s1 G ι Ω H σ ρ _ w r (Post.mb h fun c Ω1 c' H1 G1 ι1 x1 w1 d1 h1=>?_)
 cases (show c'=c from d1)
 cases c with
 | true=>exact s2 G1 ι1 Ω1 H1 σ ρ Q w1 (r.ext x1) h1
 | false=>exact zax w1 rfl h1
theorem zhD (h1:VT X W a ta) (h2:VW X W (.BoolOp .Or (b :: rest) pos) tb):VW X W (.BoolOp .Or (a :: b :: rest) pos) (vOrT ta tb):=by
 obtain ⟨t,p1,s1⟩:=h1
 obtain ⟨u,p2,s2⟩:=h2
 refine ⟨_,pw_or p1 p2,fun G ι Ω H σ ρ Q w r h=>?_⟩
 refine s1 G ι Ω H σ ρ _ w r (Post.mb h fun c Ω1 c' H1 G1 ι1 x1 w1 d1 h1=>?_)
 cases (show c'=c from d1)
 cases c with
 | false=>exact s2 G1 ι1 Ω1 H1 σ ρ Q w1 (r.ext x1) h1
 | true=>exact zax w1 rfl h1
theorem VW.vt (h:VW X W e ta):VT X W e ta:=let ⟨t,p,s⟩:=h; ⟨t,p.pt,s⟩
theorem zfh (h:VT X W a ta):VT X W (.UnaryOp .Not a pos) (zgV ta):=by
 obtain ⟨t,p,s⟩:=h
 refine ⟨_,zoP p,fun G ι Ω H σ ρ Q w r h=>?_⟩
 refine s G ι Ω H σ ρ _ w r (Post.mb h fun c Ω1 c' H1 G1 ι1 x1 w1 d1 h1=>?_)
 cases (show c'=c from d1)
 exact zax w1 rfl h1
@[simp] def vAnd (f g:Ev→Mo A):Ev→Mo A:=fun ρ=>mb (f ρ) fun x=>mb (zlx x) fun c=>if c then g ρ else ret (.bl false)
@[simp] def vOr (f g:Ev→Mo A):Ev→Mo A:=fun ρ=>mb (f ρ) fun x=>mb (zlx x) fun c=>if c then ret (.bl true) else g ρ
@[simp] def vNot (f:Ev→Mo A):Ev→Mo A:=fun ρ=>mb (f ρ) fun x=>mb (zlx x) fun c=>ret (.bl (!c))
theorem zhr {op} (h:VE X W a fa):VE X W (.BoolOp op [a] pos) fa:=let ⟨t,p,s⟩:=h; ⟨t,zou p,s⟩
theorem zhc (h1:VE X W a fa) (h2:VE X W (.BoolOp .And (b :: rest) pos) fb):VE X W (.BoolOp .And (a :: b :: rest) pos) (vAnd fa fb):=by
 obtain ⟨t,p1,s1⟩:=h1
 obtain ⟨u,p2,s2⟩:=h2
 refine ⟨_,zpE p1 p2,fun G ι Ω H σ ρ Q w r h=>?_⟩
 refine s1 G ι Ω H σ ρ _ w r (Post.mb h fun x Ω1 v H1 G1 ι1 x1 w1 d1 h1=>?_)
 cases x with
 | bl c =>
  simp only [Den] at d1
  refine ⟨c,d1,?_⟩
  cases c with
  | true=>exact s2 G1 ι1 Ω1 H1 σ ρ Q w1 (r.ext x1) h1
  | false=>exact zax w1 (by simp only [Den]) h1
 | _=>exact False.elim h1
theorem zqM (h1:VE X W a fa) (h2:VE X W (.BoolOp .Or (b :: rest) pos) fb):VE X W (.BoolOp .Or (a :: b :: rest) pos) (vOr fa fb):=by
 obtain ⟨t,p1,s1⟩:=h1
 obtain ⟨u,p2,s2⟩:=h2
 refine ⟨_,zqr p1 p2,fun G ι Ω H σ ρ Q w r h=>?_⟩
 refine s1 G ι Ω H σ ρ _ w r (Post.mb h fun x Ω1 v H1 G1 ι1 x1 w1 d1 h1=>?_)
 cases x with
 | bl c =>
  simp only [Den] at d1
  refine ⟨c,d1,?_⟩
  cases c with
  | false=>exact s2 G1 ι1 Ω1 H1 σ ρ Q w1 (r.ext x1) h1
  | true=>exact zax w1 (by simp only [Den]) h1
 | _=>exact False.elim h1
theorem zkT (h:VE X W a fa):VE X W (.UnaryOp .Not a pos) (vNot fa):=by
 obtain ⟨t,p,s⟩:=h
 refine ⟨_,zoS p,fun G ι Ω H σ ρ Q w r h=>?_⟩
 refine s G ι Ω H σ ρ _ w r (Post.mb h fun x Ω1 v H1 G1 ι1 x1 w1 d1 h1=>?_)
 cases x with
 | bl c =>
  simp only [Den] at d1
  exact ⟨c,d1,zax w1 (by simp only [Den]) h1⟩
 | _=>exact False.elim h1
@[simp] def vIf (t:Ev→Mo Bool) (f g:Ev→Mo A):Ev→Mo A:=fun ρ=>mb (t ρ) fun c=>if c then f ρ else g ρ
theorem zqv (hc:VT X W c ta) (h1:VE X W a fa) (h2:VE X W b fb):VE X W (.IfExp c a b pos) (vIf ta fa fb):=by
 obtain ⟨t0,p0,s0⟩:=hc
 obtain ⟨t,p1,s1⟩:=h1
 obtain ⟨u,p2,s2⟩:=h2
 refine ⟨_,zl8 p0 p1 p2,fun G ι Ω H σ ρ Q w r h=>?_⟩
 refine s0 G ι Ω H σ ρ _ w r (Post.mb h fun c Ω1 c' H1 G1 ι1 x1 w1 d1 h1=>?_)
 cases (show c'=c from d1)
 cases c with
 | true=>exact s1 G1 ι1 Ω1 H1 σ ρ Q w1 (r.ext x1) h1
 | false=>exact s2 G1 ι1 Ω1 H1 σ ρ Q w1 (r.ext x1) h1
end
end V2
namespace V2
open PySem PySem.Spec PyProof.Rows L2
inductive Out where
 | nx | bk | ct | ret (a:A) | exc (x:Exc)
abbrev OS:=Option (Out × Ev × Sto)
abbrev MS:=Ev→Sto→OS
def OutS (K:PySem.W.Frag) (W:WX) (G:Hp) (ι:List Addr) (D:Ends) (σ:L2.St) (H:Hp):Out→Prop
 | .nx=>D.nx σ H
 | .bk=>D.bk σ H
 | .ct=>D.ct σ H
 | .ret a=>∀ v,Den K G ι v a→D.rt v H
 | .exc x=>∀ cls dx,ExcR K G ι H x cls dx→W σ cls dx H
def zb9 (K:PySem.W.Frag) (W:WX) (G:Hp) (ι:List Addr) (D:Ends):OS→Prop
 | some (o,ρ',Ω')=>∀ σ' H' G' ι',Ext G ι G' ι'→Wd K G' ι' Ω' H'→EnvR K G' ι' σ' ρ'→OutS K W G' ι' D σ' H' o
 | none=>False
@[simp] def sM {α:Type} (m:Mo α) (ρ:Ev) (k:α→Sto→OS):Sto→OS:=fun Ω=>match m Ω with
 | some (.ok a,Ω1)=>k a Ω1
 | some (.exc x,Ω1)=>some (.exc x,ρ,Ω1)
 | none=>none
section
variable {K:PySem.W.Frag} {W:WX} {G:Hp} {ι:List Addr} {Ω:Sto} {σ:L2.St} {ρ:Ev} {D:Ends}
theorem zb9.ext {G1:Hp} {ι1:List Addr} {r:OS} (h:zb9 K W G ι D r) (e:Ext G ι G1 ι1):zb9 K W G1 ι1 D r:=by
 match r,h with
 | some (o,ρ',Ω'),h=>exact fun σ' H' G' ι' x w d=>h σ' H' G' ι' (e.trans x) w d
theorem zb9.sM {α β:Type} {rel:Rl α β} {m:Mo α} {k:α→Sto→OS} {Q1:β→Hp→Prop} (h:zb9 K W G ι D (V2.sM m ρ k Ω)) (r:EnvR K G ι σ ρ)
  (hk:∀ a Ω1 v H1 G1 ι1,Ext G ι G1 ι1→Wd K G1 ι1 Ω1 H1→rel G1 ι1 v a→zb9 K W G1 ι1 D (k a Ω1)→Q1 v H1):Post K rel W G ι σ Q1 (m Ω):=by
 unfold V2.sM at h
 revert h
 generalize m Ω=q
 intro h
 match q,h with
 | some (.ok a,Ω1),h=>exact fun v H1 G1 ι1 x w d=>hk a Ω1 v H1 G1 ι1 x w d (zb9.ext h x)
 | some (.exc x,Ω1),h=>exact fun cls dx H' G' ι' e w d=>h σ H' G' ι' e w (r.ext e) cls dx d
end
def SimS (K:PySem.W.Frag) (W:WX) (t:TS) (f:MS):Prop:=∀ G ι Ω H σ ρ D,Wd K G ι Ω H→EnvR K G ι σ ρ→zb9 K W G ι D (f ρ Ω)→t D σ H
def VS (X:Cx) (W:WX) (st:Stmt) (f:MS):Prop:=∃ t,PS X st t∧SimS X.K W t f
def VSs (X:Cx) (W:WX) (st:List Stmt) (f:MS):Prop:=∃ t,PSs X st t∧SimS X.K W t f
def SimG (K:PySem.W.Frag) (W:WX) (t:TG) (g:A→MS):Prop:=∀ G ι Ω H σ ρ v a D,Wd K G ι Ω H→EnvR K G ι σ ρ→Den K G ι v a→zb9 K W G ι D (g a ρ Ω)→t v σ H D.nx
def zqd (K:PySem.W.Frag) (W:WX) (t:TGs) (g:List A→MS):Prop:=∀ G ι Ω H σ ρ vs as D,Wd K G ι Ω H→EnvR K G ι σ ρ→DenL K G ι vs as→zb9 K W G ι D (g as ρ Ω)→t vs σ H D.nx
def VG (X:Cx) (W:WX) (tg:Expr) (g:A→MS):Prop:=∃ t,PG X tg t∧SimG X.K W t g
def VGs (X:Cx) (W:WX) (tgs:List Expr) (g:List A→MS):Prop:=∃ t,PGs X tgs t∧zqd X.K W t g
@[simp] def sNx:MS:=fun ρ Ω=>some (.nx,ρ,Ω)
@[simp] def sSeq (f g:MS):MS:=fun ρ Ω=>match f ρ Ω with
 | some (.nx,ρ1,Ω1)=>g ρ1 Ω1
 | r=>r
section
variable {X:Cx} {W:WX} {st:Stmt} {rest:List Stmt} {f g:MS} {e:Expr} {fe:Ev→Mo A} {pos:Pos}
theorem zhZ {K:PySem.W.Frag} {G H:Hp} {ι:List Addr} {Ω:Sto} {σ:L2.St} {ρ:Ev} {D:Ends} (w:Wd K G ι Ω H) (r:EnvR K G ι σ ρ) (h:zb9 K W G ι D (some (.nx,ρ,Ω))):D.nx σ H:=h σ H G ι (Ext.refl _ _) w r
theorem zaO:VSs X W [] sNx:=⟨_,zn5,fun _ _ _ _ _ _ _ w r h=>zhZ w r h⟩
theorem zfw {K:PySem.W.Frag} {t u:TS} (h1:SimS K W t f) (h2:SimS K W u g):SimS K W (tSeq t u) (sSeq f g):=by
 intro G ι Ω H σ ρ D w r h
 refine h1 G ι Ω H σ ρ _ w r ?_
 unfold sSeq at h
 revert h
 generalize f ρ Ω=q
 intro h
 match q,h with
 | some (.nx,ρ1,Ω1),h=>exact fun σ' H' G' ι' x w' r'=>h2 G' ι' Ω1 H' σ' ρ1 D w' r' (zb9.ext h x)
 | some (.bk,ρ1,Ω1),h=>exact h
 | some (.ct,ρ1,Ω1),h=>exact h
 | some (.ret a,ρ1,Ω1),h=>exact h
 | some (.exc a,ρ1,Ω1),h=>exact h
theorem zaf (h1:VS X W st f) (h2:VSs X W rest g):VSs X W (st :: rest) (sSeq f g):=by
 obtain ⟨t,p1,s1⟩:=h1
 obtain ⟨u,p2,s2⟩:=h2
 exact ⟨_,zmn p1 p2,zfw s1 s2⟩
theorem zag (h1:VS X W st f):VSs X W [st] f:=let ⟨t,p,s⟩:=h1; ⟨t,znD p,s⟩
@[simp] def sExp (fe:Ev→Mo A):MS:=fun ρ=>sM (fe ρ) ρ fun _ Ω=>some (.nx,ρ,Ω)
theorem zkt (h:VE X W e fe) (hs:swapsWith e none pos.line X.env=pure false:=by rfl):VS X W (.Expr e pos) (sExp fe):=by
 obtain ⟨t,p,s⟩:=h
 refine ⟨_,zn9 p hs,fun G ι Ω H σ ρ D w r h=>?_⟩
 exact s G ι Ω H σ ρ _ w r (zb9.sM h r fun a Ω1 v H1 G1 ι1 x1 w1 d1 h1=>zhZ w1 (r.ext x1) h1)
@[simp] def sRet (fe:Ev→Mo A):MS:=fun ρ=>sM (fe ρ) ρ fun a Ω=>some (.ret a,ρ,Ω)
theorem zaE (h:VE X W e fe):VS X W (.Return (some e) pos) (sRet fe):=by
 obtain ⟨t,p,s⟩:=h
 refine ⟨_,zoC p,fun G ι Ω H σ ρ D w r h=>?_⟩
 exact s G ι Ω H σ ρ _ w r (zb9.sM h r fun a Ω1 v H1 G1 ι1 x1 w1 d1 h1=>h1 σ H1 G1 ι1 (Ext.refl _ _) w1 (r.ext x1) v d1)
@[simp] def sIf (c:Ev→Mo Bool) (f g:MS):MS:=fun ρ=>sM (c ρ) ρ fun b Ω=>if b then f ρ Ω else g ρ Ω
theorem zch {c:Expr} {a b:List Stmt} {fc:Ev→Mo Bool} (hc:VT X W c fc) (h1:VSs X W a f) (h2:VSs X W b g):VS X W (.If c a b pos) (sIf fc f g):=by
 obtain ⟨t0,p0,s0⟩:=hc
 obtain ⟨t,p1,s1⟩:=h1
 obtain ⟨u,p2,s2⟩:=h2
 refine ⟨_,zqL p0 p1 p2,fun G ι Ω H σ ρ D w r h=>?_⟩
 refine s0 G ι Ω H σ ρ _ w r (zb9.sM h r fun c Ω1 c' H1 G1 ι1 x1 w1 d1 h1=>?_)
 cases (show c'=c from d1)
 cases c with
 | true=>exact s1 G1 ι1 Ω1 H1 σ ρ D w1 (r.ext x1) h1
 | false=>exact s2 G1 ι1 Ω1 H1 σ ρ D w1 (r.ext x1) h1
@[simp] def gN (i:Nat):A→MS:=fun a ρ Ω=>some (.nx,ρ.set i (some a),Ω)
theorem zbL {i:Nat} {x:Str} (hN:X.N.Nodup) (hi:X.N[i]? = some x) (hx:Loc X.env.scope x) (hf:X.fn x=true∨X.env.scope.names.lookup x=some .local:=by first | exact .inl rfl | exact .inr rfl | assumption):VG X W (.Name x pos) (gN i) :=
 ⟨_,zng hN hi hx hf,fun _ _ _ _ _ _ _ _ _ w r d h=>zhZ w (r.set i d) h⟩
@[simp] def zgH:List A→MS:=fun as ρ Ω=>match as with
 | []=>some (.nx,ρ,Ω)
 | _=>none
@[simp] def zbX (g:A→MS) (gs:List A→MS):List A→MS:=fun as=>match as with
 | a :: r=>sSeq (g a) (gs r)
 | []=>fun _ _=>none
theorem zk4:VGs X W [] zgH:=⟨_,zob,fun G ι Ω H σ ρ vs as D w r d h=>by
 cases as with
 | nil=>rw [zbm] at d;exact ⟨d,zhZ w r h⟩
 | cons=>exact False.elim h⟩
theorem ze5 {es:List Expr} {g:A→MS} {gs:List A→MS} (h1:VG X W e g) (h2:VGs X W es gs)
  (hs:(assignEach (e :: es) X.env).map (·.2)=assign e X.env :: (assignEach es X.env).map (·.2):=by rfl):VGs X W (e :: es) (zbX g gs):=by
 obtain ⟨t,p1,s1⟩:=h1
 obtain ⟨u,p2,s2⟩:=h2
 refine ⟨_,zls p1 p2 hs,fun G ι Ω H σ ρ vs as D w r d h=>?_⟩
 cases as with
 | nil=>exact False.elim h
 | cons a as =>
  obtain ⟨x,xs,rfl,d1,d2⟩:=d.zbW
  refine ⟨x,xs,rfl,s1 G ι Ω H σ ρ x a { D with nx:=fun σ' H'=>u xs σ' H' D.nx } w r d1 ?_⟩
  simp only [zbX,sSeq] at h
  revert h
  generalize g a ρ Ω=q
  intro h
  match q,h with
  | some (.nx,ρ1,Ω1),h=>exact fun σ' H' G' ι' x w' r'=>s2 G' ι' Ω1 H' σ' ρ1 xs as D w' r' (d2.ext x) (zb9.ext h x)
  | some (.bk,ρ1,Ω1),h=>exact h
  | some (.ct,ρ1,Ω1),h=>exact h
  | some (.ret a,ρ1,Ω1),h=>exact h
  | some (.exc a,ρ1,Ω1),h=>exact h
@[simp] def zf1 (n:Nat) (gs:List A→MS):A→MS:=fun a ρ Ω=>match a with
 | .tup ds=>if ds.length=n then gs ds ρ Ω else none
 | _=>none
theorem zmq {es:List Expr} {k:Nat} {n:Nat} {gs:List A→MS} (hc:X.calm=true) (h:VGs X W es gs)
  (hn:(assignEach es X.env).length=n:=by rfl) (hst:(assignEach es X.env).findIdx? (·.1)=none:=by rfl):VG X W (.Tuple es k pos) (zf1 n gs):=by
 obtain ⟨t,p,s⟩:=h
 refine ⟨_,zpv hc p hn hst,fun G ι Ω H σ ρ v a D w r d h=>?_⟩
 unfold zf1 at h
 cases a with
 | tup ds =>
  simp only at h
  by_cases hl:ds.length=n
  ·rw [if_pos hl] at h
   simp only [Den] at d
   obtain ⟨p,xs,rfl,h2,h3⟩:=d
   exact ⟨p,xs,rfl,SqT.of (w.sub _ _ h2),by rw [h3.length];exact hl,s G ι Ω H σ ρ xs ds D w r h3 h⟩
  ·rw [if_neg hl] at h;exact False.elim h
 | _=>exact False.elim h
@[simp] def sAsg (fe:Ev→Mo A) (g:A→MS):MS:=fun ρ=>sM (fe ρ) ρ fun a Ω=>g a ρ Ω
theorem zig {K:PySem.W.Frag} {te:TE} {t:TG} {g:A→MS} (h1:Sim K (Den K) W te fe) (h2:SimG K W t g):SimS K W (tAsg te t) (sAsg fe g):=by
 intro G ι Ω H σ ρ D w r h
 exact h1 G ι Ω H σ ρ _ w r (zb9.sM h r fun a Ω1 v H1 G1 ι1 x1 w1 d1 h1=>h2 G1 ι1 Ω1 H1 σ ρ v a D w1 (r.ext x1) d1 h1)
theorem zaD {i:Nat} {x:Str} {pos':Pos} (hN:X.N.Nodup) (hi:X.N[i]? = some x) (hx:Loc X.env.scope x) (he:VE X W e fe) (hs:swapsWith e (some (.Name x pos')) pos.line X.env=pure false:=by rfl) (hf:X.fn x=true∨X.env.scope.names.lookup x=some .local:=by first | exact .inl rfl | exact .inr rfl | assumption) :
  VS X W (.Assign [.Name x pos'] e pos) (sAsg fe (gN i)):=by
 obtain ⟨t,p1,s1⟩:=he
 exact ⟨_,zpc hN hi hx p1 hs hf,zig s1 fun _ _ _ _ _ _ _ _ _ w r d h=>zhZ w (r.set i d) h⟩
structure Src where
 ds:List A
 ok:Sto→Prop
structure ItV (K:PySem.W.Frag) (G:Hp) (ι:List Addr) (J:It) (S:Src):Prop where
 go:∀ G' ι' Ω' H',Ext G ι G' ι'→Wd K G' ι' Ω' H'→S.ok Ω'→∀ i,i < S.ds.length→J.go i H'
 stop:∀ G' ι' Ω' H',Ext G ι G' ι'→Wd K G' ι' Ω' H'→S.ok Ω'→∀ i,S.ds.length ≤ i→J.stop i H'
 yld:∀ G' ι' Ω' H',Ext G ι G' ι'→Wd K G' ι' Ω' H'→S.ok Ω'→∀ i x H2 d,S.ds[i]? = some d→J.yld i H' x H2→∃ G2,Ext G' ι' G2 ι'∧Wd K G2 ι' Ω' H2∧Den K G2 ι' x d
def relI (K:PySem.W.Frag):Rl Src It:=fun G ι J S=>ItV K G ι J S
theorem ItV.ext {K:PySem.W.Frag} {G G1:Hp} {ι ι1:List Addr} {J:It} {S:Src} (h:ItV K G ι J S) (e:Ext G ι G1 ι1):ItV K G1 ι1 J S :=
 ⟨fun G' ι' Ω' H' x=>h.go G' ι' Ω' H' (e.trans x),fun G' ι' Ω' H' x=>h.stop G' ι' Ω' H' (e.trans x),fun G' ι' Ω' H' x=>h.yld G' ι' Ω' H' (e.trans x)⟩
def VI (X:Cx) (W:WX) (tg iter:Expr) (f:Ev→Mo Src):Prop:=∃ t,PI X tg iter t∧Sim X.K (relI X.K) W t f
open Classical in
noncomputable def fFor (ok:Sto→Prop) (g:A→MS) (b:MS):List A→MS
 | [],ρ,Ω=>if ok Ω then some (.nx,ρ,Ω) else none
 | x :: xs,ρ,Ω=>if ok Ω then (match g x ρ Ω with
  | some (.nx,ρ0,Ω0)=>(match b ρ0 Ω0 with
   | some (.nx,ρ1,Ω1)=>fFor ok g b xs ρ1 Ω1
   | some (.ct,ρ1,Ω1)=>fFor ok g b xs ρ1 Ω1
   | some (.bk,ρ1,Ω1)=>some (.nx,ρ1,Ω1)
   | r=>r)
  | some (.exc e,ρ0,Ω0)=>some (.exc e,ρ0,Ω0)
  | _=>none) else none
@[simp] noncomputable def sFor (fi:Ev→Mo Src) (g:A→MS) (b:MS):MS:=fun ρ=>sM (fi ρ) ρ fun S Ω=>fFor S.ok g b S.ds ρ Ω
theorem znR {K:PySem.W.Frag} {G:Hp} {ι:List Addr} {D:Ends} {ok:Sto→Prop} {g:A→MS} {b:MS} {xs:List A} {ρ:Ev} {Ω:Sto} (h:zb9 K W G ι D (fFor ok g b xs ρ Ω)):ok Ω:=by
 cases xs with
 | nil =>
  unfold fFor at h
  by_cases hp:ok Ω
  ·exact hp
  ·rw [if_neg hp] at h;exact False.elim h
 | cons =>
  unfold fFor at h
  by_cases hp:ok Ω
  ·exact hp
  ·rw [if_neg hp] at h;exact False.elim h
theorem znf {K:PySem.W.Frag} {wi:TI} {tg:TG} {tb:TS} {fi:Ev→Mo Src} {g:A→MS} {b:MS} (hi:Sim K (relI K) W wi fi) (hg:SimG K W tg g) (hb:SimS K W tb b):SimS K W (tFor wi tg tb) (sFor fi g b):=by
 intro G ι Ω H σ ρ D w r h
 refine hi G ι Ω H σ ρ _ w r (zb9.sM h r fun S Ω1 J H1 G1 ι1 x1 w1 j1 h1=>?_)
 refine ⟨fun i m σ' H'=>m=S.ds.length - i∧i ≤ S.ds.length∧∃ G' ι' Ω' ρ',Ext G1 ι1 G' ι'∧Wd K G' ι' Ω' H'∧EnvR K G' ι' σ' ρ'∧zb9 K W G' ι' D (fFor S.ok g b (S.ds.drop i) ρ' Ω'),
  ⟨_,rfl,Nat.zero_le _,G1,ι1,Ω1,ρ,Ext.refl _ _,w1,r.ext x1,by simpa using h1⟩,?_⟩
 rintro i m σ' H' ⟨rfl,hil,G',ι',Ω',ρ',e',w',r',h'⟩
 have hok:=znR h'
 by_cases hlt:i < S.ds.length
 ·right
  refine ⟨j1.go G' ι' Ω' H' e' w' hok i hlt,fun σ2 H2=>∃ G2 ι2 Ω2 ρ2,Ext G1 ι1 G2 ι2∧Wd K G2 ι2 Ω2 H2∧EnvR K G2 ι2 σ2 ρ2∧zb9 K W G2 ι2 D (fFor S.ok g b (S.ds.drop (i + 1)) ρ2 Ω2),fun σ2 H2 n=>?_,fun x H2 y=>?_⟩
  ·exact ⟨S.ds.length - (i + 1),by omega,rfl,hlt,n⟩
  ·obtain ⟨G2,e2,w2,d2⟩:=j1.yld G' ι' Ω' H' e' w' hok i x H2 S.ds[i] (List.getElem?_eq_getElem hlt) y
   rw [List.drop_eq_getElem_cons hlt] at h'
   unfold fFor at h'
   rw [if_pos hok] at h'
   refine hg G2 ι' Ω' H2 σ' ρ' x S.ds[i] { D with nx:=fun σ3 H3=>tb _ σ3 H3 } w2 (r'.ext e2) d2 ?_
   revert h'
   generalize g S.ds[i] ρ' Ω'=q
   intro h'
   match q,h' with
   | some (.nx,ρ3,Ω3),h' =>
    intro σ3 H3 G3 ι3 x3 w3 r3
    refine hb G3 ι3 Ω3 H3 σ3 ρ3 _ w3 r3 ?_
    simp only at h'
    revert h'
    generalize b ρ3 Ω3=q2
    intro h'
    match q2,h' with
    | some (.nx,ρ4,Ω4),h'=>exact fun σ4 H4 G4 ι4 x4 w4 r4=>⟨G4,ι4,Ω4,ρ4,(e'.trans (e2.trans x3)).trans x4,w4,r4,zb9.ext h' ((e2.trans x3).trans x4)⟩
    | some (.ct,ρ4,Ω4),h'=>exact fun σ4 H4 G4 ι4 x4 w4 r4=>⟨G4,ι4,Ω4,ρ4,(e'.trans (e2.trans x3)).trans x4,w4,r4,zb9.ext h' ((e2.trans x3).trans x4)⟩
    | some (.bk,ρ4,Ω4),h'=>exact fun σ4 H4 G4 ι4 x4 w4 r4=>h' σ4 H4 G4 ι4 ((e2.trans x3).trans x4) w4 r4
    | some (.ret a,ρ4,Ω4),h'=>exact fun σ4 H4 G4 ι4 x4 w4 r4=>h' σ4 H4 G4 ι4 ((e2.trans x3).trans x4) w4 r4
    | some (.exc a,ρ4,Ω4),h'=>exact fun σ4 H4 G4 ι4 x4 w4 r4=>h' σ4 H4 G4 ι4 ((e2.trans x3).trans x4) w4 r4
   | some (.exc a,ρ3,Ω3),h'=>exact fun σ4 H4 G4 ι4 x4 w4 r4=>h' σ4 H4 G4 ι4 (e2.trans x4) w4 r4
 ·have hie:i=S.ds.length:=by omega
  subst hie
  left
  rw [List.drop_length] at h'
  unfold fFor at h'
  rw [if_pos hok] at h'
  exact ⟨j1.stop G' ι' Ω' H' e' w' hok _ (Nat.le_refl _),zhZ w' r' h'⟩
theorem zgf {tg iter:Expr} {body:List Stmt} {fi:Ev→Mo Src} {g:A→MS} {b:MS} (hp:PassesOwn (model X.prog X.w) X.A X.env X.xe) (hc:X.calm=true) (hi:VI X W tg iter fi) (hg:VG X W tg g) (hb:VSs X W body b)
  (hs:∀ x,foldedSetIterable iter X.env x=pure x:=by intro _;rfl):VS X W (.For tg iter body [] pos) (sFor fi g b):=by
 obtain ⟨t1,p1,s1⟩:=hi
 obtain ⟨t2,p2,s2⟩:=hg
 obtain ⟨t3,p3,s3⟩:=hb
 exact ⟨_,zoy hp hc p1 p2 p3 hs,znf s1 s2 s3⟩
@[simp] def srcOf (a:A) (ds:List A):Src:=⟨ds,fun Ω=>zbG Ω a=some ds⟩
theorem zhW {Ω:Sto} {a:A} {ds:List A} (h:zbG Ω a=some ds) (ha:∀ es,a ≠ .tup es):zao Ω a=some ds:=by
 cases a with
 | tup es=>exact absurd rfl (ha es)
 | _=>exact h
theorem zp5 {tg l:Expr} {tl:TE} (hl:PE X l tl):PI X tg l (fun σ H R=>tl σ H fun x H1=>∃ a,x = .ref a∧(((∃ xs,SqL X.K H1 a xs)∧R (Itl X.K a) H1)∨((∃ xs,SqT X.K H1 a xs)∧R (Itt X.K a) H1))):=by
 intro pins s σ H R I h
 refine thn (hl pins s σ H _ I h) fun v s1 ⟨x,H1,I1,r1,q1⟩=>?_
 obtain ⟨a,e,q⟩:=q1
 subst e
 cases r1
 rcases q with ⟨⟨xs,hq⟩,q⟩ | ⟨⟨xs,hq⟩,q⟩
 ·obtain ⟨its,rv,p,hz⟩:=I1.list hq
  refine wpAny_pyIter_list p.isList ?_
  refine ⟨s1.heap.objs.size,[s1.heap.objs.size],_,_,H1,rfl,I1.kept (t':=s1.toks) fun b o e=>Heap.get?_push_of_some _ e,zky a _,⟨_,Heap.get?_push_size _ rfl,rfl,rfl⟩,fun b hb=>?_,q⟩
  have e:b=s1.heap.objs.size:=by simpa using hb
  subst e
  exact I1.fpOk (Nat.le_refl _) (I1.hok.fresh (Nat.le_refl _))
 ·obtain ⟨its,rv,p,hz⟩:=I1.tuple hq
  refine wpAny_pyIter_tuple (show s1.heap.IsTuple a its.toArray from p) ?_
  refine ⟨s1.heap.objs.size,[s1.heap.objs.size],_,_,H1,rfl,I1.kept (t':=s1.toks) fun b o e=>Heap.get?_push_of_some _ e,zjm a _,⟨_,Heap.get?_push_size _ rfl,rfl,rfl⟩,fun b hb=>?_,q⟩
  have e:b=s1.heap.objs.size:=by simpa using hb
  subst e
  exact I1.fpOk (Nat.le_refl _) (I1.hok.fresh (Nat.le_refl _))
@[simp] def vSeq (f:Ev→Mo A):Ev→Mo Src:=fun ρ=>mb (f ρ) fun a Ω=>match zbG Ω a with
 | some ds=>some (.ok (srcOf a ds),Ω)
 | none=>none
theorem znN {K:PySem.W.Frag} {G:Hp} {ι:List Addr} {p:Addr} {a:A} {ds:List A} (d:Den K G ι (.ref p) a) (ha:∀ es,a ≠ .tup es):ItV K G ι (Itl K p) (srcOf a ds):=by
 have key:∀ G' ι' Ω' H',Ext G ι G' ι'→Wd K G' ι' Ω' H'→zbG Ω' a=some ds→∃ xs,SqL K H' p xs∧DenL K G' ι' xs ds:=fun G' ι' Ω' H' e w h=>by
  obtain ⟨q,xs,h1,h2,h3⟩:=zbt w (d.ext e) (zhW h ha)
  cases h1
  exact ⟨xs,h2,h3⟩
 refine ⟨fun G' ι' Ω' H' e w h i hi=>?_,fun G' ι' Ω' H' e w h i hi=>?_,fun G' ι' Ω' H' e w h i x H2 y hy hd=>?_⟩
 ·obtain ⟨xs,h2,h3⟩:=key G' ι' Ω' H' e w h
  have hl:i < xs.length:=by rw [h3.length];exact hi
  exact ⟨xs,xs[i],h2,List.getElem?_eq_getElem hl⟩
 ·obtain ⟨xs,h2,h3⟩:=key G' ι' Ω' H' e w h
  exact ⟨xs,h2,by rw [h3.length];exact hi⟩
 ·obtain ⟨xs,h2,h3⟩:=key G' ι' Ω' H' e w h
  obtain ⟨e1,e2⟩:=hd
  subst e1
  obtain ⟨z,q1,q2⟩:=h3.get hy
  rw [e2 xs h2] at q1
  cases q1
  exact ⟨G',Ext.refl _ _,w,q2⟩
theorem zn2 {K:PySem.W.Frag} {G:Hp} {ι:List Addr} {p:Addr} {ds es:List A} (d:Den K G ι (.ref p) (.tup es)):ItV K G ι (Itt K p) (srcOf (.tup es) ds):=by
 have key:∀ G' ι' Ω' H',Ext G ι G' ι'→Wd K G' ι' Ω' H'→zbG Ω' (.tup es)=some ds→∃ xs,SqT K H' p xs∧DenL K G' ι' xs ds:=fun G' ι' Ω' H' e w h=>by
  simp only [zbG,Option.some.injEq] at h
  subst h
  have d':=d.ext e
  simp only [Den] at d'
  obtain ⟨q,xs,h1,h2,h3⟩:=d'
  cases h1
  exact ⟨xs,SqT.of (w.sub _ _ h2),h3⟩
 refine ⟨fun G' ι' Ω' H' e w h i hi=>?_,fun G' ι' Ω' H' e w h i hi=>?_,fun G' ι' Ω' H' e w h i x H2 y hy hd=>?_⟩
 ·obtain ⟨xs,h2,h3⟩:=key G' ι' Ω' H' e w h
  have hl:i < xs.length:=by rw [h3.length];exact hi
  exact ⟨xs,xs[i],h2,List.getElem?_eq_getElem hl⟩
 ·obtain ⟨xs,h2,h3⟩:=key G' ι' Ω' H' e w h
  exact ⟨xs,h2,by rw [h3.length];exact hi⟩
 ·obtain ⟨xs,h2,h3⟩:=key G' ι' Ω' H' e w h
  obtain ⟨e1,e2⟩:=hd
  subst e1
  obtain ⟨z,q1,q2⟩:=h3.get hy
  rw [e2 xs h2] at q1
  cases q1
  exact ⟨G',Ext.refl _ _,w,q2⟩
theorem ziT {tg l:Expr} {fe:Ev→Mo A} (h:VE X W l fe):VI X W tg l (vSeq fe):=by
 obtain ⟨t,p,s⟩:=h
 refine ⟨_,zp5 p,fun G ι Ω H σ ρ R w r h=>?_⟩
 refine s G ι Ω H σ ρ _ w r (Post.mb h fun a Ω1 v H1 G1 ι1 x1 w1 d1 h1=>?_)
 cases e:zbG Ω1 a with
 | none=>simp only [e] at h1;exact False.elim h1
 | some ds =>
  simp only [e] at h1
  obtain ⟨q,xs,h2,h3,h4⟩:=zfL w1 d1 e
  subst h2
  refine ⟨q,rfl,?_⟩
  cases a with
  | tup es =>
   right
   simp only [Den] at d1
   obtain ⟨q',xs',e1,e2,e3⟩:=id d1
   cases e1
   exact ⟨⟨_,SqT.of (w1.sub _ _ e2)⟩,h1 _ H1 G1 ι1 (Ext.refl _ _) w1 (zn2 (by simpa only [Den] using d1))⟩
  | _ =>
   left
   obtain ⟨q',xs',e1,e2,e3⟩:=zbt w1 d1 (zhW e (by intro _ z;cases z))
   cases e1
   exact ⟨⟨_,e2⟩,h1 _ H1 G1 ι1 (Ext.refl _ _) w1 (znN d1 (by intro _ z;cases z))⟩
@[simp] def zc8 (lo:Int) (n:Nat):Src:=⟨(List.range n).map fun (i:Nat)=>A.int (lo + (i:Int)),fun _=>True⟩
def zbx (i:Int):Prop:=-(2 ^ 62) ≤ i∧i < 2 ^ 62
instance (i:Int):Decidable (zbx i):=by unfold zbx;infer_instance
theorem zjW {K:PySem.W.Frag} {G:Hp} {ι:List Addr} {lo:Int} {n:Nat}:ItV K G ι (Itr lo n) (zc8 lo n):=by
 refine ⟨fun _ _ _ _ _ _ _ i hi=>show i < n by simpa [zc8] using hi,fun _ _ _ _ _ _ _ i hi=>show n ≤ i by simpa [zc8] using hi,fun G' ι' Ω' H' e w h i x H2 y hy hd=>?_⟩
 obtain ⟨e1,e2⟩:=hd
 subst e1 e2
 refine ⟨G',Ext.refl _ _,w,?_⟩
 simp only [zc8,List.getElem?_map] at hy
 cases e:(List.range n)[i]? with
 | none=>rw [e] at hy;cases hy
 | some j =>
  rw [e] at hy
  cases hy
  have:=(List.getElem?_eq_some_iff.mp e).2
  simp at this
  subst this
  simp only [Den]
@[simp] def zgZ (f:Ev→Mo (List A)):Ev→Mo Src:=fun ρ=>mb (f ρ) fun as=>match as with
 | [.int j]=>mb (chk (zbx j)) fun _=>ret (zc8 0 j.toNat)
 | _=>stuck
@[simp] def zl2 (f:Ev→Mo (List A)):Ev→Mo Src:=fun ρ=>mb (f ρ) fun as=>match as with
 | [.int i, .int j]=>mb (chk (zbx i∧zbx j)) fun _=>ret (zc8 i (j - i).toNat)
 | _=>stuck
theorem zfi {tg a:Expr} {fs:Ev→Mo (List A)} {p:Pos} (hg:Gl X "range") (hm:X.mg "range" = none) (ha:VA X W [a] fs) (hs:starEach [a] X.env=[(false,eval a X.env)]:=by rfl):VI X W tg (.Call (.Name "range" p) [a] [] pos) (zgZ fs):=by
 obtain ⟨t,p,s⟩:=ha
 refine ⟨_,zj9 hg hm p hs,fun G ι Ω H σ ρ R w r h=>?_⟩
 refine s G ι Ω H σ ρ _ w r (Post.mb h fun as Ω1 vs H1 G1 ι1 x1 w1 d1 h1=>?_)
 split at h1
 ·rename_i j
  obtain ⟨v,t,rfl,q1,q2⟩:=d1.zbW
  rw [zbm] at q2;subst q2
  simp only [Den] at q1;subst q1
  obtain ⟨hc,h2⟩:=Post.chk h1
  exact ⟨j,rfl,hc.1,hc.2,zax w1 zjW h2⟩
 ·exact False.elim h1
theorem zk1 {tg a b:Expr} {fs:Ev→Mo (List A)} {p:Pos} (hg:Gl X "range") (hm:X.mg "range" = none) (ha:VA X W [a,b] fs) (hs:starEach [a,b] X.env=[(false,eval a X.env),(false,eval b X.env)]:=by rfl) (hs2:starEach [b] X.env=[(false,eval b X.env)]:=by rfl):VI X W tg (.Call (.Name "range" p) [a,b] [] pos) (zl2 fs):=by
 obtain ⟨t,p,s⟩:=ha
 refine ⟨_,zle hg hm p hs hs2,fun G ι Ω H σ ρ R w r h=>?_⟩
 refine s G ι Ω H σ ρ _ w r (Post.mb h fun as Ω1 vs H1 G1 ι1 x1 w1 d1 h1=>?_)
 split at h1
 ·rename_i i j
  obtain ⟨v,t,rfl,q1,q2⟩:=d1.zbW
  obtain ⟨v',t',rfl,q3,q4⟩:=q2.zbW
  rw [zbm] at q4;subst q4
  simp only [Den] at q1 q3;subst q1 q3
  obtain ⟨hc,h2⟩:=Post.chk h1
  exact ⟨i,j,rfl,⟨hc.1.1,hc.1.2,hc.2.1,hc.2.2⟩,zax w1 zjW h2⟩
 ·exact False.elim h1
end
end V2
namespace V2
open PySem PySem.Spec PyProof.Rows L2
section
variable {X:Cx} {W:WX} {e a b:Expr} {es:List Expr} {pos:Pos} {fa fb:Ev→Mo A} {fs:Ev→Mo (List A)}
@[simp] def gIx (a i:A):Mo A:=fun Ω=>match zbG Ω a,i with
 | some ds, .int n=>match atI ds n with
  | some d=>some (.ok d,Ω)
  | none=>none
 | _,_=>none
theorem zm1 {K:PySem.W.Frag} {G:Hp} {ι:List Addr} {xs:List V} {ds:List A} {n:Int} {d:A} (h:DenL K G ι xs ds) (e:atI ds n=some d):∃ x,atI xs n=some x∧Den K G ι x d:=by
 unfold atI at e ⊢
 rw [h.length]
 cases q:ixN ds.length n with
 | none=>rw [q] at e;cases e
 | some j=>rw [q] at e;exact h.get e
theorem zfF (ha:VE X W a fa) (hb:VE X W b fb) (hs:zij b):VE X W (.Subscript a b pos) (vOp gIx fa fb):=by
 obtain ⟨t,p1,s1⟩:=ha
 obtain ⟨u,p2,s2⟩:=hb
 refine ⟨_,zpX zmJ p1 p2 hs,zgY ?_ s1 s2⟩
 intro G ι Ω H σ x y a i Q w d1 d2 h
 unfold gIx at h
 split at h
 ·rename_i ds n e1
  split at h
  ·rename_i d e
   simp only [Den] at d2
   have fin:∀ v,Den X.K G ι v d→Q v H:=fun v hv=>h v H G ι (Ext.refl _ _) w hv
   obtain ⟨p,xs,rfl,hq,hd⟩:=zfL w d1 e1
   obtain ⟨v,q1,q2⟩:=zm1 hd e
   rcases hq with hq | hq
   ·exact .inl ⟨p,xs,n,v,rfl,d2,hq,q1,fin v q2⟩
   ·exact .inr (.inl ⟨p,xs,n,v,rfl,d2,hq,q1,fin v q2⟩)
  ·exact False.elim h
 ·exact False.elim h
def VO (X:Cx) (W:WX) (e:Option Expr) (f:Ev→Mo (Option Int)):Prop:=∃ t,PO X e t∧Sim X.K (fun _ _ o o'=>o=o') W t f
theorem zbE:VO X W none (fun _=>ret none):=⟨_,znr,fun _ _ _ _ _ _ _ w _ q=>zax w rfl q⟩
@[simp] def zbJ (f:Ev→Mo A):Ev→Mo (Option Int):=fun ρ=>mb (f ρ) fun x=>match x with
 | .int i=>ret (some i)
 | _=>stuck
theorem zbA (h:VE X W e fa):VO X W (some e) (zbJ fa):=by
 obtain ⟨t,p,s⟩:=h
 refine ⟨_,zm4 p,fun G ι Ω H σ ρ Q w r h=>?_⟩
 refine s G ι Ω H σ ρ _ w r (Post.mb h fun x Ω1 v H1 G1 ι1 x1 w1 d1 h1=>?_)
 cases x with
 | int i=>simp only [Den] at d1;exact ⟨i,d1,zax w1 rfl h1⟩
 | _=>exact False.elim h1
def cutA (ds:List A) (lo hi:Option Int):List A:=(ds.drop (HT.sIx ds.length 0 lo)).take (HT.sIx ds.length ds.length hi - HT.sIx ds.length 0 lo)
theorem zkk {K:PySem.W.Frag} {G:Hp} {ι:List Addr} {xs:List V} {ds:List A} (h:DenL K G ι xs ds) (lo hi:Option Int):DenL K G ι (cutV xs lo hi) (cutA ds lo hi):=by
 unfold cutV cutA
 rw [h.length]
 exact (h.drop _).take _
@[simp] def gSl (c:Bool) (a:A) (lo hi:Option Int):Mo A:=fun Ω=>match a with
 | .tup ds=>if HT.sIx ds.length 0 lo=0∧HT.sIx ds.length ds.length hi=ds.length then none else some (.ok (.tup (cutA ds lo hi)),Ω)
 | a=>match zao Ω a with
  | some ds=>mkL c (cutA ds lo hi) Ω
  | none=>none
@[simp] def vSl (c:Bool) (f:Ev→Mo A) (l h:Ev→Mo (Option Int)):Ev→Mo A:=fun ρ=>mb (f ρ) fun a=>mb (l ρ) fun lo=>mb (h ρ) fun hi=>gSl c a lo hi
theorem za4 (c:Bool) {lo hi:Option Expr} {fl fh:Ev→Mo (Option Int)} {p2:Pos} (he:VE X W e fa) (hl:VO X W lo fl) (hh:VO X W hi fh):VE X W (.Subscript e (.Slice lo hi none p2) pos) (vSl c fa fl fh):=by
 obtain ⟨t,p1,s1⟩:=he
 obtain ⟨u,p2,s2⟩:=hl
 obtain ⟨u',p3,s3⟩:=hh
 refine ⟨_,zl5 (znB.or zpU) p1 p2 p3,fun G ι Ω H σ ρ Q w r h=>?_⟩
 refine s1 G ι Ω H σ ρ _ w r (Post.mb h fun x Ω1 v H1 G1 ι1 x1 w1 d1 h1=>?_)
 refine s2 G1 ι1 Ω1 H1 σ ρ _ w1 (r.ext x1) (Post.mb h1 fun o Ω2 o' H2 G2 ι2 x2 w2 d2 h2=>?_)
 cases (show o'=o from d2)
 refine s3 G2 ι2 Ω2 H2 σ ρ _ w2 ((r.ext x1).ext x2) (Post.mb h2 fun k Ω3 k' H3 G3 ι3 x3 w3 d3 h3=>?_)
 cases (show k'=k from d3)
 have d:=d1.ext (x2.trans x3)
 unfold gSl at h3
 cases x with
 | tup ds =>
  simp only at h3
  split at h3
  ·exact False.elim h3
  ·rename_i hn
   simp only [Den] at d
   obtain ⟨p,xs,rfl,q2,q3⟩:=d
   exact .inr ⟨p,xs,rfl,SqT.of (w3.sub _ _ q2),by rw [q3.length];exact hn,fun l hl=>ziU w3 hl (zkk q3 o k) h3⟩
 | _ =>
  simp only at h3
  split at h3
  ·rename_i ds e
   obtain ⟨p,xs,rfl,q2,q3⟩:=zbt w3 d e
   exact .inl ⟨p,xs,rfl,q2,fun l hl=>ziN w3 hl (zkk q3 o k) h3⟩
  ·exact False.elim h3
def zoR (K:PySem.W.Frag) (W:WX) (r:List V→Hp→VK→Prop) (g:List A→Mo A):Prop :=
 ∀ G ι Ω H σ xs as Q,Wd K G ι Ω H→DenL K G ι xs as→Post K (Den K) W G ι σ Q (g as Ω)→r xs H Q
def zcD (X:Cx) (W:WX) (f:Value) (g:List A→Mo A):Prop:=∃ r,zdc X f r∧zoR X.K W r g
@[simp] def vCl (g:List A→Mo A) (f:Ev→Mo (List A)):Ev→Mo A:=fun ρ=>mb (f ρ) g
theorem zmr {K:PySem.W.Frag} {r:List V→Hp→VK→Prop} {g:List A→Mo A} {t:TA} (hg:zoR K W r g) (h:Sim K (DenL K) W t fs):Sim K (Den K) W (tCB r t) (vCl g fs):=by
 intro G ι Ω H σ ρ Q w q h2
 exact h G ι Ω H σ ρ _ w q (Post.mb h2 fun as Ω1 vs H1 G1 ι1 x1 w1 d1 h1=>hg G1 ι1 Ω1 H1 σ vs as Q w1 d1 h1)
theorem zav {id:String} {x:Str} {g:List A→Mo A} {p:Pos} (hc:zcD X W (.builtin id) g) (hg:Gl X x) (hm:X.mg x=none) (hv:bootBuiltins x=some (.builtin id)) (ha:VA X W (e :: es) fs) (hn:x ≠ "__name__":=by decide) (hdb:(x == ("__debug__" : Str))=false:=by decide)
  (he:starEach (e :: es) X.env=(false,eval e X.env) :: starEach es X.env:=by rfl) (hpl:(backTo pos (starEach es X.env)).any (·.1)=false:=by rfl):VE X W (.Call (.Name x p) (e :: es) [] pos) (vCl g fs):=by
 obtain ⟨r,c1,c2⟩:=hc
 obtain ⟨t,p1,s1⟩:=ha
 exact ⟨_,zmc c1 hg hm hv p1 hn hdb he hpl,zmr c2 s1⟩
theorem zfM {T:String} {x:Str} {g:List A→Mo A} {p:Pos} (hc:zcD X W (.type T) g) (hg:Gl X x) (hm:X.mg x=none) (hv:bootBuiltins x=some (.type T)) (ha:VA X W (e :: es) fs) (hn:x ≠ "__name__":=by decide) (hdb:(x == ("__debug__" : Str))=false:=by decide)
  (he:starEach (e :: es) X.env=(false,eval e X.env) :: starEach es X.env:=by rfl) (hpl:(backTo pos (starEach es X.env)).any (·.1)=false:=by rfl):VE X W (.Call (.Name x p) (e :: es) [] pos) (vCl g fs):=by
 obtain ⟨r,c1,c2⟩:=hc
 obtain ⟨t,p1,s1⟩:=ha
 exact ⟨_,zk7 c1 hg hm hv p1 hn hdb he hpl,zmr c2 s1⟩
theorem den1 {K:PySem.W.Frag} {G:Hp} {ι:List Addr} {xs:List V} {d:A} (h:DenL K G ι xs [d]):∃ x,xs=[x]∧Den K G ι x d:=by
 obtain ⟨x,r,rfl,h1,h2⟩:=h.zbW
 rw [zbm] at h2;subst h2
 exact ⟨x,rfl,h1⟩
theorem den2 {K:PySem.W.Frag} {G:Hp} {ι:List Addr} {xs:List V} {d d':A} (h:DenL K G ι xs [d,d']):∃ x y,xs=[x,y]∧Den K G ι x d∧Den K G ι y d':=by
 obtain ⟨x,r,rfl,h1,h2⟩:=h.zbW
 obtain ⟨y,rfl,h3⟩:=den1 h2
 exact ⟨x,y,rfl,h1,h3⟩
@[simp] def gLen (as:List A):Mo A:=fun Ω=>match as with
 | [a]=>(match zbG Ω a with
  | some ds=>some (.ok (.int ds.length),Ω)
  | none=>none)
 | _=>none
theorem zeS:zcD X W (.builtin "len") gLen:=by
 refine ⟨_,zg4,?_⟩
 intro G ι Ω H σ xs as Q w d h
 unfold gLen at h
 split at h
 ·rename_i a
  split at h
  ·rename_i ds e
   obtain ⟨x,rfl,d1⟩:=den1 d
   obtain ⟨p,ys,rfl,h2,h3⟩:=zfL w d1 e
   exact ⟨p,ys,rfl,h2,h _ H G ι (Ext.refl _ _) w (by simp only [Den,h3.length])⟩
  ·exact False.elim h
 ·exact False.elim h
@[simp] def znS (as:List A):Mo A:=match as with
 | [.int i, .int j]=>ret (.int (max i j))
 | _=>stuck
@[simp] def znk (as:List A):Mo A:=match as with
 | [.int i, .int j]=>ret (.int (min i j))
 | _=>stuck
theorem zoO (hc:X.calm=true):zcD X W (.builtin "max") znS:=by
 refine ⟨_,zlf hc,?_⟩
 intro G ι Ω H σ xs as Q w d h
 unfold znS at h
 split at h
 ·rename_i i j
  obtain ⟨x,y,rfl,d1,d2⟩:=den2 d
  simp only [Den] at d1 d2;subst d1 d2
  refine ⟨i,j,rfl,?_⟩
  have e:(if j > i then j else i)=max i j:=by split <;> omega
  rw [e]
  exact zax w (by simp only [Den]) h
 ·exact False.elim h
theorem zox (hc:X.calm=true):zcD X W (.builtin "min") znk:=by
 refine ⟨_,zk5 hc,?_⟩
 intro G ι Ω H σ xs as Q w d h
 unfold znk at h
 split at h
 ·rename_i i j
  obtain ⟨x,y,rfl,d1,d2⟩:=den2 d
  simp only [Den] at d1 d2;subst d1 d2
  refine ⟨i,j,rfl,?_⟩
  have e:(if j < i then j else i)=min i j:=by split <;> omega
  rw [e]
  exact zax w (by simp only [Den]) h
 ·exact False.elim h
def tyA (Ω:Sto):A→Option String
 | .int _=>some "int"
 | .bl _=>some "bool"
 | .str _=>some "str"
 | .non=>some "NoneType"
 | .tup _=>some "tuple"
 | .lst _=>some "list"
 | .cel k=>match Ω[k]? with
  | some (.lst _)=>some "list"
  | some (.dct _)=>some "dict"
  | _=>none
 | _=>none
theorem zo4 {K:PySem.W.Frag} {G H:Hp} {ι:List Addr} {Ω:Sto} {v:V} {a:A} {t:String} (w:Wd K G ι Ω H) (d:Den K G ι v a) (h:tyA Ω a=some t):TyOf K H v (.type t):=by
 cases a with
 | int i=>simp only [tyA,Option.some.injEq] at h;subst h;simp only [Den] at d;subst d;exact .int i
 | bl i=>simp only [tyA,Option.some.injEq] at h;subst h;simp only [Den] at d;subst d;exact .bl i
 | str i=>simp only [tyA,Option.some.injEq] at h;subst h;simp only [Den] at d;subst d;exact .str i
 | non=>simp only [tyA,Option.some.injEq] at h;subst h;simp only [Den] at d;subst d;exact .non
 | tup ds=>simp only [tyA,Option.some.injEq] at h;subst h;simp only [Den] at d;obtain ⟨p,xs,rfl,h2,_⟩:=d;exact .tup (w.sub _ _ h2)
 | lst ds=>simp only [tyA,Option.some.injEq] at h;subst h;simp only [Den] at d;obtain ⟨p,xs,rfl,h2,_⟩:=d;exact .lst (w.sub _ _ h2)
 | cel k =>
  simp only [Den] at d
  obtain ⟨p,rfl,hk⟩:=d
  simp only [tyA] at h
  split at h
  ·rename_i ds e
   cases h
   obtain ⟨g,xs,h3,_⟩:=w.cel k _ p e hk
   exact .lst h3
  ·rename_i ds e
   cases h
   obtain ⟨g,xs,h3,_⟩:=w.cel k _ p e hk
   exact .dK h3
  ·cases h
 | _=>simp [tyA] at h
theorem zei (K:PySem.W.Frag):PySem.W.kitOne K (.type "int") (.type "int")=some true:=by unfold PySem.W.kitOne;rw [if_pos (beq_self_eq_true _)]
theorem zdS (K:PySem.W.Frag):PySem.W.kitOne K (.type "bool") (.type "int")=some true:=by kernel_rfl
theorem zez (K:PySem.W.Frag):PySem.W.kitOne K (.type "str") (.type "int")=some false:=by kernel_rfl
theorem zcp (K:PySem.W.Frag):PySem.W.kitOne K (.type "NoneType") (.type "int")=some false:=by kernel_rfl
theorem zdg (K:PySem.W.Frag):PySem.W.kitOne K (.type "tuple") (.type "int")=some false:=by kernel_rfl
theorem zdT (K:PySem.W.Frag):PySem.W.kitOne K (.type "list") (.type "int")=some false:=by kernel_rfl
theorem zdV (K:PySem.W.Frag):PySem.W.kitOne K (.type "int") (.type "bool")=some false:=by kernel_rfl
theorem zdk (K:PySem.W.Frag):PySem.W.kitOne K (.type "bool") (.type "bool")=some true:=by unfold PySem.W.kitOne;rw [if_pos (beq_self_eq_true _)]
theorem zdO (K:PySem.W.Frag):PySem.W.kitOne K (.type "str") (.type "bool")=some false:=by kernel_rfl
theorem zcd (K:PySem.W.Frag):PySem.W.kitOne K (.type "NoneType") (.type "bool")=some false:=by kernel_rfl
theorem zcV (K:PySem.W.Frag):PySem.W.kitOne K (.type "tuple") (.type "bool")=some false:=by kernel_rfl
theorem zdx (K:PySem.W.Frag):PySem.W.kitOne K (.type "list") (.type "bool")=some false:=by kernel_rfl
theorem zdp (K:PySem.W.Frag):PySem.W.kitOne K (.type "int") (.type "tuple")=some false:=by kernel_rfl
theorem zc2 (K:PySem.W.Frag):PySem.W.kitOne K (.type "bool") (.type "tuple")=some false:=by kernel_rfl
theorem zdu (K:PySem.W.Frag):PySem.W.kitOne K (.type "str") (.type "tuple")=some false:=by kernel_rfl
theorem zb2 (K:PySem.W.Frag):PySem.W.kitOne K (.type "NoneType") (.type "tuple")=some false:=by kernel_rfl
theorem zcI (K:PySem.W.Frag):PySem.W.kitOne K (.type "tuple") (.type "tuple")=some true:=by unfold PySem.W.kitOne;rw [if_pos (beq_self_eq_true _)]
theorem zc5 (K:PySem.W.Frag):PySem.W.kitOne K (.type "list") (.type "tuple")=some false:=by kernel_rfl
theorem zdX (K:PySem.W.Frag):PySem.W.kitOne K (.type "int") (.type "list")=some false:=by kernel_rfl
theorem zdA (K:PySem.W.Frag):PySem.W.kitOne K (.type "bool") (.type "list")=some false:=by kernel_rfl
theorem zdY (K:PySem.W.Frag):PySem.W.kitOne K (.type "str") (.type "list")=some false:=by kernel_rfl
theorem zcb (K:PySem.W.Frag):PySem.W.kitOne K (.type "NoneType") (.type "list")=some false:=by kernel_rfl
theorem zcW (K:PySem.W.Frag):PySem.W.kitOne K (.type "tuple") (.type "list")=some false:=by kernel_rfl
theorem zdt (K:PySem.W.Frag):PySem.W.kitOne K (.type "list") (.type "list")=some true:=by unfold PySem.W.kitOne;rw [if_pos (beq_self_eq_true _)]
theorem zek (K:PySem.W.Frag):PySem.W.kitOne K (.type "int") (.type "str")=some false:=by kernel_rfl
theorem zdL (K:PySem.W.Frag):PySem.W.kitOne K (.type "bool") (.type "str")=some false:=by kernel_rfl
theorem zeG (K:PySem.W.Frag):PySem.W.kitOne K (.type "str") (.type "str")=some true:=by unfold PySem.W.kitOne;rw [if_pos (beq_self_eq_true _)]
theorem zcv (K:PySem.W.Frag):PySem.W.kitOne K (.type "NoneType") (.type "str")=some false:=by kernel_rfl
theorem zdv (K:PySem.W.Frag):PySem.W.kitOne K (.type "tuple") (.type "str")=some false:=by kernel_rfl
theorem zdU (K:PySem.W.Frag):PySem.W.kitOne K (.type "list") (.type "str")=some false:=by kernel_rfl
inductive TyP:String→String→Bool→Prop where
 | zei:TyP "int" "int" true
 | zdS:TyP "bool" "int" true
 | zez:TyP "str" "int" false
 | zcp:TyP "NoneType" "int" false
 | zdg:TyP "tuple" "int" false
 | zdT:TyP "list" "int" false
 | zdV:TyP "int" "bool" false
 | zdk:TyP "bool" "bool" true
 | zdO:TyP "str" "bool" false
 | zcd:TyP "NoneType" "bool" false
 | zcV:TyP "tuple" "bool" false
 | zdx:TyP "list" "bool" false
 | zdp:TyP "int" "tuple" false
 | zc2:TyP "bool" "tuple" false
 | zdu:TyP "str" "tuple" false
 | zb2:TyP "NoneType" "tuple" false
 | zcI:TyP "tuple" "tuple" true
 | zc5:TyP "list" "tuple" false
 | zdX:TyP "int" "list" false
 | zdA:TyP "bool" "list" false
 | zdY:TyP "str" "list" false
 | zcb:TyP "NoneType" "list" false
 | zcW:TyP "tuple" "list" false
 | zdt:TyP "list" "list" true
 | zek:TyP "int" "str" false
 | zdL:TyP "bool" "str" false
 | zeG:TyP "str" "str" true
 | zcv:TyP "NoneType" "str" false
 | zdv:TyP "tuple" "str" false
 | zdU:TyP "list" "str" false
theorem TyP.ok (K:PySem.W.Frag) {t n:String} {b:Bool} (h:TyP t n b):PySem.W.kitOne K (.type t) (.type n)=some b:=by
 cases h
 ·exact V2.zei K
 ·exact V2.zdS K
 ·exact V2.zez K
 ·exact V2.zcp K
 ·exact V2.zdg K
 ·exact V2.zdT K
 ·exact V2.zdV K
 ·exact V2.zdk K
 ·exact V2.zdO K
 ·exact V2.zcd K
 ·exact V2.zcV K
 ·exact V2.zdx K
 ·exact V2.zdp K
 ·exact V2.zc2 K
 ·exact V2.zdu K
 ·exact V2.zb2 K
 ·exact V2.zcI K
 ·exact V2.zc5 K
 ·exact V2.zdX K
 ·exact V2.zdA K
 ·exact V2.zdY K
 ·exact V2.zcb K
 ·exact V2.zcW K
 ·exact V2.zdt K
 ·exact V2.zek K
 ·exact V2.zdL K
 ·exact V2.zeG K
 ·exact V2.zcv K
 ·exact V2.zdv K
 ·exact V2.zdU K
def isTy (t n:String):Option Bool:=if t = "int"∧n = "int" then some true else if t = "bool"∧n = "int" then some true else if t = "str"∧n = "int" then some false else if t = "NoneType"∧n = "int" then some false else if t = "tuple"∧n = "int" then some false else if t = "list"∧n = "int" then some false else if t = "int"∧n = "bool" then some false else if t = "bool"∧n = "bool" then some true else if t = "str"∧n = "bool" then some false else if t = "NoneType"∧n = "bool" then some false else if t = "tuple"∧n = "bool" then some false else if t = "list"∧n = "bool" then some false else if t = "int"∧n = "tuple" then some false else if t = "bool"∧n = "tuple" then some false else if t = "str"∧n = "tuple" then some false else if t = "NoneType"∧n = "tuple" then some false else if t = "tuple"∧n = "tuple" then some true else if t = "list"∧n = "tuple" then some false else if t = "int"∧n = "list" then some false else if t = "bool"∧n = "list" then some false else if t = "str"∧n = "list" then some false else if t = "NoneType"∧n = "list" then some false else if t = "tuple"∧n = "list" then some false else if t = "list"∧n = "list" then some true else if t = "int"∧n = "str" then some false else if t = "bool"∧n = "str" then some false else if t = "str"∧n = "str" then some true else if t = "NoneType"∧n = "str" then some false else if t = "tuple"∧n = "str" then some false else if t = "list"∧n = "str" then some false else none
theorem zoU {t n:String} {b:Bool} (h:isTy t n=some b):TyP t n b:=by
 unfold isTy at h
 by_cases h0:t = "int"∧n = "int"
 ·rw [if_pos h0] at h;cases h;obtain ⟨rfl,rfl⟩:=h0;exact .zei
 rw [if_neg h0] at h
 by_cases h1:t = "bool"∧n = "int"
 ·rw [if_pos h1] at h;cases h;obtain ⟨rfl,rfl⟩:=h1;exact .zdS
 rw [if_neg h1] at h
 by_cases h2:t = "str"∧n = "int"
 ·rw [if_pos h2] at h;cases h;obtain ⟨rfl,rfl⟩:=h2;exact .zez
 rw [if_neg h2] at h
 by_cases h3:t = "NoneType"∧n = "int"
 ·rw [if_pos h3] at h;cases h;obtain ⟨rfl,rfl⟩:=h3;exact .zcp
 rw [if_neg h3] at h
 by_cases h4:t = "tuple"∧n = "int"
 ·rw [if_pos h4] at h;cases h;obtain ⟨rfl,rfl⟩:=h4;exact .zdg
 rw [if_neg h4] at h
 by_cases h5:t = "list"∧n = "int"
 ·rw [if_pos h5] at h;cases h;obtain ⟨rfl,rfl⟩:=h5;exact .zdT
 rw [if_neg h5] at h
 by_cases h6:t = "int"∧n = "bool"
 ·rw [if_pos h6] at h;cases h;obtain ⟨rfl,rfl⟩:=h6;exact .zdV
 rw [if_neg h6] at h
 by_cases h7:t = "bool"∧n = "bool"
 ·rw [if_pos h7] at h;cases h;obtain ⟨rfl,rfl⟩:=h7;exact .zdk
 rw [if_neg h7] at h
 by_cases h8:t = "str"∧n = "bool"
 ·rw [if_pos h8] at h;cases h;obtain ⟨rfl,rfl⟩:=h8;exact .zdO
 rw [if_neg h8] at h
 by_cases h9:t = "NoneType"∧n = "bool"
 ·rw [if_pos h9] at h;cases h;obtain ⟨rfl,rfl⟩:=h9;exact .zcd
 rw [if_neg h9] at h
 by_cases h10:t = "tuple"∧n = "bool"
 ·rw [if_pos h10] at h;cases h;obtain ⟨rfl,rfl⟩:=h10;exact .zcV
 rw [if_neg h10] at h
 by_cases h11:t = "list"∧n = "bool"
 ·rw [if_pos h11] at h;cases h;obtain ⟨rfl,rfl⟩:=h11;exact .zdx
 rw [if_neg h11] at h
 by_cases h12:t = "int"∧n = "tuple"
 ·rw [if_pos h12] at h;cases h;obtain ⟨rfl,rfl⟩:=h12;exact .zdp
 rw [if_neg h12] at h
 by_cases h13:t = "bool"∧n = "tuple"
 ·rw [if_pos h13] at h;cases h;obtain ⟨rfl,rfl⟩:=h13;exact .zc2
 rw [if_neg h13] at h
 by_cases h14:t = "str"∧n = "tuple"
 ·rw [if_pos h14] at h;cases h;obtain ⟨rfl,rfl⟩:=h14;exact .zdu
 rw [if_neg h14] at h
 by_cases h15:t = "NoneType"∧n = "tuple"
 ·rw [if_pos h15] at h;cases h;obtain ⟨rfl,rfl⟩:=h15;exact .zb2
 rw [if_neg h15] at h
 by_cases h16:t = "tuple"∧n = "tuple"
 ·rw [if_pos h16] at h;cases h;obtain ⟨rfl,rfl⟩:=h16;exact .zcI
 rw [if_neg h16] at h
 by_cases h17:t = "list"∧n = "tuple"
 ·rw [if_pos h17] at h;cases h;obtain ⟨rfl,rfl⟩:=h17;exact .zc5
 rw [if_neg h17] at h
 by_cases h18:t = "int"∧n = "list"
 ·rw [if_pos h18] at h;cases h;obtain ⟨rfl,rfl⟩:=h18;exact .zdX
 rw [if_neg h18] at h
 by_cases h19:t = "bool"∧n = "list"
 ·rw [if_pos h19] at h;cases h;obtain ⟨rfl,rfl⟩:=h19;exact .zdA
 rw [if_neg h19] at h
 by_cases h20:t = "str"∧n = "list"
 ·rw [if_pos h20] at h;cases h;obtain ⟨rfl,rfl⟩:=h20;exact .zdY
 rw [if_neg h20] at h
 by_cases h21:t = "NoneType"∧n = "list"
 ·rw [if_pos h21] at h;cases h;obtain ⟨rfl,rfl⟩:=h21;exact .zcb
 rw [if_neg h21] at h
 by_cases h22:t = "tuple"∧n = "list"
 ·rw [if_pos h22] at h;cases h;obtain ⟨rfl,rfl⟩:=h22;exact .zcW
 rw [if_neg h22] at h
 by_cases h23:t = "list"∧n = "list"
 ·rw [if_pos h23] at h;cases h;obtain ⟨rfl,rfl⟩:=h23;exact .zdt
 rw [if_neg h23] at h
 by_cases h24:t = "int"∧n = "str"
 ·rw [if_pos h24] at h;cases h;obtain ⟨rfl,rfl⟩:=h24;exact .zek
 rw [if_neg h24] at h
 by_cases h25:t = "bool"∧n = "str"
 ·rw [if_pos h25] at h;cases h;obtain ⟨rfl,rfl⟩:=h25;exact .zdL
 rw [if_neg h25] at h
 by_cases h26:t = "str"∧n = "str"
 ·rw [if_pos h26] at h;cases h;obtain ⟨rfl,rfl⟩:=h26;exact .zeG
 rw [if_neg h26] at h
 by_cases h27:t = "NoneType"∧n = "str"
 ·rw [if_pos h27] at h;cases h;obtain ⟨rfl,rfl⟩:=h27;exact .zcv
 rw [if_neg h27] at h
 by_cases h28:t = "tuple"∧n = "str"
 ·rw [if_pos h28] at h;cases h;obtain ⟨rfl,rfl⟩:=h28;exact .zdv
 rw [if_neg h28] at h
 by_cases h29:t = "list"∧n = "str"
 ·rw [if_pos h29] at h;cases h;obtain ⟨rfl,rfl⟩:=h29;exact .zdU
 rw [if_neg h29] at h
 cases h
theorem znP (K:PySem.W.Frag) {t n:String} {b:Bool} (h:isTy t n=some b):PySem.W.kitOne K (.type t) (.type n)=some b:=(zoU h).ok K
@[simp] def gIs1 (as:List A):Mo A:=fun Ω=>match as with
 | [a, .ty n]=>(match (tyA Ω a).bind fun t=>isTy t n with
  | some b=>some (.ok (.bl b),Ω)
  | none=>none)
 | _=>none
theorem zgp:zcD X W (.builtin "isinstance") gIs1:=by
 refine ⟨_,ziy,?_⟩
 intro G ι Ω H σ xs as Q w d h
 unfold gIs1 at h
 split at h
 ·rename_i a n
  split at h
  ·rename_i b e
   rw [Option.bind_eq_some_iff] at e
   obtain ⟨t,e1,e2⟩:=e
   obtain ⟨x,y,rfl,d1,d2⟩:=den2 d
   simp only [Den] at d2;subst d2
   exact ⟨x,n,_,b,rfl,zo4 w d1 e1,znP _ e2,h _ H G ι (Ext.refl _ _) w (by simp only [Den])⟩
  ·exact False.elim h
 ·exact False.elim h
def MtV (K:PySem.W.Frag) (W:WX) (r:V→List V→Hp→VK→Prop) (g:A→List A→Mo A):Prop :=
 ∀ G ι Ω H σ x xs a as Q,Wd K G ι Ω H→Den K G ι x a→DenL K G ι xs as→Post K (Den K) W G ι σ Q (g a as Ω)→r x xs H Q
def isL (Ω:Sto) (a:A):Prop:=∃ ds,zao Ω a=some ds
open Classical in
@[simp] noncomputable def vBM (g:A→List A→Mo A) (fo:Ev→Mo A) (f:Ev→Mo (List A)):Ev→Mo A:=fun ρ=>mb (fo ρ) fun o Ω=>if isL Ω o then mb (f ρ) (fun as=>g o as) Ω else none
theorem zlr {K:PySem.W.Frag} {G H:Hp} {ι:List Addr} {Ω:Sto} {v:V} {a:A} (w:Wd K G ι Ω H) (d:Den K G ι v a) (h:isL Ω a):tyV K "list" v H:=by
 obtain ⟨ds,e⟩:=h
 obtain ⟨p,xs,rfl,q,_⟩:=zbt w d e
 exact .inl ⟨rfl,xs,q⟩
theorem zpy {name:Str} {apos:Pos} {id:String} {r:V→List V→Hp→VK→Prop} {g:A→List A→Mo A} (pa:PlainAttrs "list") (slot:Slot "list" name id) (hty:typeOf (.builtin id)=pure (.type "method_descriptor")) (hm:MtR X id r) (hv:MtV X.K W r g) (ho:VE X W a fa) (ha:VA X W (e :: es) fs)
  (hbase:attributeBase a name X.env (eval a X.env)=eval a X.env:=by rfl)
  (hfew:((backTo pos (starEach (e :: es) X.env)).all (fun x=>!x.1) && (backToKw pos (keywordEach [] X.env)).all (fun x=>x.1.isSome)
   && decide ((e :: es).length + ([] : List Keyword).length + (if ([] : List Keyword).isEmpty then 0 else 1) < 30))=true:=by rfl)
  (hline:(apos.endLine == pos.line)=true:=by rfl) (hs:starEach (e :: es) X.env=(false,eval e X.env) :: starEach es X.env:=by rfl) (hplain:(backTo pos (starEach es X.env)).any (·.1)=false:=by rfl) :
  VE X W (.Call (.Attribute a name apos) (e :: es) [] pos) (vBM g fa fs):=by
 obtain ⟨t,p1,s1⟩:=ho
 obtain ⟨u,p2,s2⟩:=ha
 refine ⟨_,zpY pa slot hty hm p1 p2 hbase hfew hline hs hplain,fun G ι Ω H σ ρ Q w r h=>?_⟩
 refine s1 G ι Ω H σ ρ _ w r (Post.mb h fun x Ω1 v H1 G1 ι1 x1 w1 d1 h1=>?_)
 split at h1
 ·rename_i hl
  refine ⟨zlr w1 d1 hl,s2 G1 ι1 Ω1 H1 σ ρ _ w1 (r.ext x1) (Post.mb h1 fun as Ω2 vs H2 G2 ι2 x2 w2 d2 h2=>?_)⟩
  exact hv G2 ι2 Ω2 H2 σ v vs x as Q w2 (d1.ext x2) d2 h2
 ·exact False.elim h1
def zhi (Ω:Sto):A→Option (Nat × List A)
 | .cel k=>match Ω[k]? with
  | some (.lst ds)=>some (k,ds)
  | _=>none
 | _=>none
theorem zmf {K:PySem.W.Frag} {G H:Hp} {ι:List Addr} {Ω:Sto} {v:V} {a:A} {k:Nat} {ds:List A} (w:Wd K G ι Ω H) (d:Den K G ι v a) (h:zhi Ω a=some (k,ds)):∃ p xs,v = .ref p∧ι[k]? = some p∧G p=none∧H p=some (.lst xs)∧DenL K G ι xs ds:=by
 cases a with
 | cel j =>
  simp only [zhi] at h
  split at h
  ·rename_i es e
   cases h
   simp only [Den] at d
   obtain ⟨p,rfl,hk⟩:=d
   obtain ⟨g,xs,h3,h4⟩:=w.cel k _ p e hk
   exact ⟨p,xs,rfl,hk,g,h3,h4⟩
  ·cases h
 | _=>simp [zhi] at h
@[simp] def zdq (o:A) (as:List A):Mo A:=fun Ω=>match zhi Ω o,as with
 | some (k,ds),[y]=>if ds.length < sizeLine then some (.ok .non,Ω.set k (.lst (ds ++ [y]))) else none
 | _,_=>none
theorem zi2:MtV X.K W zj3 zdq:=by
 intro G ι Ω H σ x xs a as Q w d1 d2 h
 unfold zdq at h
 split at h
 ·rename_i k ds y e
  split at h
  ·rename_i hl
   obtain ⟨p,zs,rfl,hk,g,h3,h4⟩:=zmf w d1 e
   obtain ⟨u,rfl,du⟩:=den1 d2
   refine ⟨p,zs,u,rfl,rfl,h3,by rw [h4.length];exact hl,?_⟩
   exact h _ _ G ι (Ext.refl _ _) (w.put (c := .lst (ds ++ [y])) hk g ⟨g,_,zaG,h4.append (.cons du .nil)⟩) (by simp only [Den])
  ·exact False.elim h
 ·exact False.elim h
end
end V2
namespace V2
open PySem PySem.Spec PyProof.Rows L2
mutual
def Cl (n:Nat):A→Prop
 | .cel k=>k < n
 | .tup ds=>ClL n ds
 | .lst ds=>ClL n ds
 | _=>True
def ClL (n:Nat):List A→Prop
 | []=>True
 | d :: ds=>Cl n d∧ClL n ds
end
section
variable {K:PySem.W.Frag} {G:Hp} {ι:List Addr}
mutual
theorem Den.cl:∀ {v:V} {d:A},Den K G ι v d→Cl ι.length d
 | _, .int _,_=>by simp only [Cl]
 | _, .bl _,_=>by simp only [Cl]
 | _, .str _,_=>by simp only [Cl]
 | _, .non,_=>by simp only [Cl]
 | _, .ty _,_=>by simp only [Cl]
 | _, .adr _,_=>by simp only [Cl]
 | _, .exn _ _ _ _,_=>by simp only [Cl]
 | _, .gl _,_=>by simp only [Cl]
 | _, .scr _,_=>by simp only [Cl]
 | _, .tup ds,h=>by
  simp only [Den] at h;simp only [Cl]
  obtain ⟨a,xs,_,_,h3⟩:=h
  exact DenL.cl h3
 | _, .lst ds,h=>by
  simp only [Den] at h;simp only [Cl]
  obtain ⟨a,xs,_,_,h3⟩:=h
  exact DenL.cl h3
 | _, .cel k,h=>by
  simp only [Den] at h;simp only [Cl]
  obtain ⟨a,_,h2⟩:=h
  exact (List.getElem?_eq_some_iff.mp h2).1
theorem DenL.cl:∀ {xs:List V} {ds:List A},DenL K G ι xs ds→ClL ι.length ds
 | _,[],_=>by simp only [ClL]
 | _,d :: ds,h=>by
  simp only [DenL] at h;simp only [ClL]
  obtain ⟨x,r,_,h2,h3⟩:=h
  exact ⟨Den.cl h2,DenL.cl h3⟩
end
mutual
theorem Den.cut {ι':List Addr} {n:Nat} (e:∀ k,k < n→ι[k]? = ι'[k]?):∀ {v:V} {d:A},Den K G ι' v d→Cl n d→Den K G ι v d
 | _, .int _,h,_=>by simpa only [Den] using h
 | _, .bl _,h,_=>by simpa only [Den] using h
 | _, .str _,h,_=>by simpa only [Den] using h
 | _, .non,h,_=>by simpa only [Den] using h
 | _, .ty _,h,_=>by simpa only [Den] using h
 | _, .adr _,h,_=>by simpa only [Den] using h
 | _, .exn _ _ _ _,h,_=>by simpa only [Den] using h
 | _, .gl _,h,_=>by simpa only [Den] using h
 | _, .scr _,h,_=>by simpa only [Den] using h
 | _, .tup ds,h,c=>by
  simp only [Den] at h ⊢;simp only [Cl] at c
  obtain ⟨a,xs,h1,h2,h3⟩:=h
  exact ⟨a,xs,h1,h2,DenL.cut e h3 c⟩
 | _, .lst ds,h,c=>by
  simp only [Den] at h ⊢;simp only [Cl] at c
  obtain ⟨a,xs,h1,h2,h3⟩:=h
  exact ⟨a,xs,h1,h2,DenL.cut e h3 c⟩
 | _, .cel k,h,c=>by
  simp only [Den] at h ⊢;simp only [Cl] at c
  obtain ⟨a,h1,h2⟩:=h
  exact ⟨a,h1,(e k c).trans h2⟩
theorem DenL.cut {ι':List Addr} {n:Nat} (e:∀ k,k < n→ι[k]? = ι'[k]?):∀ {xs:List V} {ds:List A},DenL K G ι' xs ds→ClL n ds→DenL K G ι xs ds
 | _,[],h,_=>by simpa only [DenL] using h
 | _,d :: ds,h,c=>by
  simp only [DenL] at h ⊢;simp only [ClL] at c
  obtain ⟨x,r,h1,h2,h3⟩:=h
  exact ⟨x,r,h1,Den.cut e h2 c.1,DenL.cut e h3 c.2⟩
end
def ClF (n:Nat):Fd→Prop
 | .val a=>Cl n a
 | .lst ds=>ClL n ds
 | .dct kvs=>ClL n (kvs.map (·.2))
def ClFs (n:Nat):List (Str × Fd)→Prop
 | []=>True
 | p :: r=>ClF n p.2∧ClFs n r
def ClC (n:Nat):Cell→Prop
 | .lst ds=>ClL n ds
 | .dct kvs=>ClL n (kvs.map (·.2))
 | .ins _ fs=>ClFs n fs
 | _=>True
theorem FdOk.cl {H:Hp} {v:V} {fd:Fd} (h:FdOk K G ι H v fd):ClF ι.length fd:=by
 cases fd with
 | val a=>exact Den.cl h
 | lst ds=>obtain ⟨_,_,_,_,_,_,q⟩:=h;exact q.cl
 | dct kvs=>obtain ⟨_,_,_,_,_,_,_,q⟩:=h;exact q.cl
theorem zdI.cl {H:Hp}:∀ {ws:List (Str × V)} {fs:List (Str × Fd)},zdI K G ι H ws fs→ClFs ι.length fs
 | [],[],_=>trivial
 | (_,_) :: _,(_,_) :: _,h=>⟨h.2.1.cl,h.2.2.cl⟩
 | [],_ :: _,h=>h.elim
 | _ :: _,[],h=>h.elim
theorem zc7.cl {H:Hp} {a:Addr} {c:Cell} (h:zc7 K G ι H a c):ClC ι.length c:=by
 cases c with
 | lst ds=>obtain ⟨_,_,_,q⟩:=h;exact q.cl
 | dct kvs=>obtain ⟨_,_,_,_,q⟩:=h;exact q.cl
 | ins cls fs=>obtain ⟨_,_,_,_,_,_,q⟩:=h;exact q.cl
 | tab x pos qual=>trivial
 | dead=>trivial
theorem FdOk.cut {H:Hp} {ι':List Addr} {n:Nat} {v:V} {fd:Fd} (h:FdOk K G ι' H v fd) (e:∀ k,k < n→ι[k]? = ι'[k]?) (hi:∀ b,b ∉ ι'→b ∉ ι) (c:ClF n fd):FdOk K G ι H v fd:=by
 cases fd with
 | val a=>exact Den.cut e h c
 | lst ds=>obtain ⟨b,xs,h1,h2,h3,h4,h5⟩:=h;exact ⟨b,xs,h1,h2,hi b h3,h4,h5.cut e c⟩
 | dct kvs=>obtain ⟨b,ws,h1,h2,h3,h4,h5,h6⟩:=h;exact ⟨b,ws,h1,h2,hi b h3,h4,h5,h6.cut e c⟩
theorem zdI.cut {H:Hp} {ι':List Addr} {n:Nat} (e:∀ k,k < n→ι[k]? = ι'[k]?) (hi:∀ b,b ∉ ι'→b ∉ ι):∀ {ws:List (Str × V)} {fs:List (Str × Fd)},zdI K G ι' H ws fs→ClFs n fs→zdI K G ι H ws fs
 | [],[],_,_=>trivial
 | (_,_) :: _,(_,_) :: _,h,c=>⟨h.1,h.2.1.cut e hi c.1,zdI.cut e hi h.2.2 c.2⟩
 | [],_ :: _,h,_=>h.elim
 | _ :: _,[],h,_=>h.elim
theorem zc7.cut {H:Hp} {ι':List Addr} {n:Nat} {a:Addr} {c:Cell} (h:zc7 K G ι' H a c) (e:∀ k,k < n→ι[k]? = ι'[k]?) (hi:∀ b,b ∉ ι'→b ∉ ι) (hc:ClC n c):zc7 K G ι H a c:=by
 cases c with
 | lst ds=>obtain ⟨g,xs,h1,h2⟩:=h;exact ⟨g,xs,h1,h2.cut e hc⟩
 | dct kvs=>obtain ⟨g,ws,h1,h2,h3⟩:=h;exact ⟨g,ws,h1,h2,h3.cut e hc⟩
 | ins cls fs=>obtain ⟨g,C,dx,ws,h0,h1,h2⟩:=h;exact ⟨g,C,dx,ws,h0,h1,h2.cut e hi hc⟩
 | tab x pos qual=>exact h
 | dead=>trivial
theorem Ext.cut {G':Hp} {ι':List Addr} (e:Ext G ι G' ι'):∀ k,k < ι.length→ι[k]? = ι'[k]?:=fun k hk=>by
 rw [List.getElem?_eq_getElem hk,e.pre k _ (List.getElem?_eq_getElem hk)]
theorem Wd.cut {G' H H':Hp} {ι':List Addr} {Ω Ω':Sto} (w:Wd K G ι Ω H) (w':Wd K G' ι' Ω' H') (e:Ext G ι G' ι') (ht:Ω'.take Ω.length=Ω):Wd K G' ι Ω H' where
 sub:=w'.sub
 inj:=w.inj
 len:=w.len
 live:=fun a ha=>by
  obtain ⟨k,hk,ea⟩:=List.getElem_of_mem ha
  exact w'.live a (List.mem_of_getElem? (e.pre k a (by rw [← ea];exact List.getElem?_eq_getElem hk)))
 cel:=fun k c a h1 h2=>by
  have hk:k < Ω.length:=(List.getElem?_eq_some_iff.mp h1).1
  have h1':Ω'[k]? = some c:=by
   rw [← ht,List.getElem?_take] at h1
   rw [if_pos hk] at h1;exact h1
  have q:=w'.cel k c a h1' (e.pre k a h2)
  have q0:=w.cel k c a h1 h2
  cases c with
  | lst ds =>
   obtain ⟨g,xs,h3,h4⟩:=q
   obtain ⟨_,_,_,h5⟩:=q0
   exact ⟨g,xs,h3,h4.cut e.cut h5.cl⟩
  | dct kvs =>
   obtain ⟨g,ws,h3,h4,h5⟩:=q
   obtain ⟨_,_,_,_,h6⟩:=q0
   exact ⟨g,ws,h3,h4,h5.cut e.cut h6.cl⟩
  | ins cls fs =>
   obtain ⟨g,C,dx,ws,h0,h3,h4⟩:=q
   obtain ⟨_,_,_,_,_,_,h6⟩:=q0
   exact ⟨g,C,dx,ws,h0,h3,h4.cut (n:=ι.length) e.cut (fun b hb z=>hb (by
    obtain ⟨k,hk,ea⟩:=List.getElem_of_mem z
    exact List.mem_of_getElem? (e.pre k b (by rw [← ea];exact List.getElem?_eq_getElem hk)))) h6.cl⟩
  | tab x pos qual=>exact q
  | dead=>trivial
 sep:=fun b k i k' i' h1 h2=>by
  have back:∀ {k i},zcw H' ι Ω k i b→zcw H' ι' Ω' k i b:=fun {k i} h=>h.to (fun a ha=>⟨e.pre k a ha,fun _ z=>z⟩) fun cls fs q=>by
   have hk:k < Ω.length:=(List.getElem?_eq_some_iff.mp q).1
   rw [← ht,List.getElem?_take,if_pos hk] at q
   exact q
  exact w'.sep b k i k' i' (back h1) (back h2)
end
open Classical in
noncomputable def trim (Ω:Sto):Option (Rs A × Sto)→Option (Rs A × Sto)
 | some (.ok a,Ω')=>if Ω'.take Ω.length=Ω∧Cl Ω.length a then some (.ok a,Ω) else some (.ok a,Ω')
 | some (.exc x,Ω')=>if Ω'.take Ω.length=Ω∧ClL Ω.length (x.fs.map (·.2)) then some (.exc x,Ω) else some (.exc x,Ω')
 | none=>none
theorem zoe {K:PySem.W.Frag} {W:WX} {G H:Hp} {ι:List Addr} {Ω:Sto} {σ:L2.St} {Q:VK} {r:Option (Rs A × Sto)} (w:Wd K G ι Ω H) (h:Post K (Den K) W G ι σ Q (trim Ω r)):Post K (Den K) W G ι σ Q r:=by
 match r,h with
 | some (.ok a,Ω'),h =>
  simp only [trim] at h
  split at h
  ·rename_i hc
   exact fun v H' G' ι' e w' d=>h v H' G' ι ⟨e.same,fun _ _ q=>q⟩ (w.cut w' e hc.1) (d.cut e.cut (by rw [w.len];exact hc.2))
  ·exact h
 | some (.exc x,Ω'),h =>
  simp only [trim] at h
  split at h
  ·rename_i hc
   intro cls dx H' G' ι' e w' d
   refine h cls dx H' G' ι ⟨e.same,fun _ _ q=>q⟩ (w.cut w' e hc.1) d
  ·exact h
@[simp] def outR:OS→Option (Rs A × Sto)
 | some (.nx,_,Ω)=>some (.ok .non,Ω)
 | some (.ret a,_,Ω)=>some (.ok a,Ω)
 | some (.exc x,_,Ω)=>some (.exc x,Ω)
 | _=>none
@[simp] def ev0 (n:Nat) (ds:List A):Ev:=ds.map some ++ List.replicate (n - ds.length) none
@[simp] noncomputable def fnF (n:Nat) (b:MS):List A→Mo A:=fun ds Ω=>trim Ω (outR (b (ev0 n ds) Ω))
def spV (K:PySem.W.Frag) (n:Nat) (F:List A→Mo A):Sp:=fun vs H Q E=>vs.length=n∧∃ G ι Ω ds,Wd K G ι Ω H∧DenL K G ι vs ds∧Post K (Den K) (fun _=>E) G ι [] Q (F ds Ω)
abbrev DefV (P:Program) (w:World) (K:PySem.W.Frag) (mg:Str→Option Value) (base:Heap) (x:Str) (k:Nat) (ps:List Str) (F:List A→Mo A):Prop:=DefX P w K mg base x k ps (spV K ps.length F)
theorem zkI {K:PySem.W.Frag} {G:Hp} {ι:List Addr} {N:List Str} {vs:List V} {ds:List A} (d:DenL K G ι vs ds):EnvR K G ι (L2.start N vs) (ev0 N.length ds):=by
 unfold L2.start ev0
 have hl:=d.length
 refine ⟨by simp [hl],fun i a h=>?_⟩
 by_cases hi:i < ds.length
 ·rw [List.getElem?_append_left (by simpa using hi)] at h
  rw [List.getElem?_map] at h
  cases e:ds[i]? with
  | none=>rw [e] at h;cases h
  | some a' =>
   rw [e] at h
   cases h
   obtain ⟨v,q1,q2⟩:=d.get e
   refine ⟨v,?_,q2⟩
   rw [List.getElem?_append_left (by simp;omega),List.getElem?_map,q1]
   rfl
 ·rw [List.getElem?_append_right (by simpa using hi)] at h
  have:=List.mem_of_getElem? h
  simp at this
theorem zgR {K:PySem.W.Frag} {N:List Str} {t:TS} {b:MS} {H:Hp} {vs:List V} {Q:VK} {E:XK} {n:Nat} (s:SimS K (fun _=>E) t b) (h:spV K n (fnF N.length b) vs H Q E):t { nx:=fun _ H'=>Q .non H',rt:=Q } (L2.start N vs) H:=by
 obtain ⟨hl,G,ι,Ω,ds,w,d,q⟩:=h
 refine s G ι Ω H _ (ev0 N.length ds) _ w (zkI d) ?_
 have q':=zoe w q
 revert q'
 generalize b (ev0 N.length ds) Ω=r
 intro q'
 match r,q' with
 | some (.nx,ρ',Ω'),q'=>exact fun σ' H' G' ι' e w' r'=>q' .non H' G' ι' e w' (by simp only [Den])
 | some (.ret a,ρ',Ω'),q'=>exact fun σ' H' G' ι' e w' r' v d'=>q' v H' G' ι' e w' d'
 | some (.exc x,ρ',Ω'),q'=>exact fun σ' H' G' ι' e w' r' cls dx d'=>q' cls dx H' G' ι' e w' d'
 | some (.bk,ρ',Ω'),q'=>exact False.elim q'
 | some (.ct,ρ',Ω'),q'=>exact False.elim q'
section
variable {P:Program} {w:World} {K:PySem.W.Frag} {mg:Str→Option Value} {base:Heap}
theorem zmy {x:Str} {st:Stmt} {N ps:List Str} {k:Nat} {b:MS} {f:Addr} {fd:FuncData} (F:Fun K x x st f fd) (S:zat N ps (zab st))
  (hbody:∀ (f:Addr) (cdv:Value) (A:Around) (outer:List Env) (s:Shared) (H:Hp) (E:XK),Room k (A.deeper (envOfC x (zab st) s.heap.objs.size f cdv)) →
   VSs (cxX P w K mg base N x (zab st) f cdv A outer s H E) (fun _=>E) (zai st) b):FnOk P w K mg base (CXE P w) (k + 1) f fd ps (spV K ps.length (fnF N.length b)):=by
 obtain ⟨oc,od,kV,doc,pm,an,cdv,ct,osl,rfl,lk,hcd⟩:=F.ex
 refine zlU lk hcd S (fun vs H Q E h=>h.1) fun A outer s H vs Q E hr hsp=>?_
 obtain ⟨t,p,q⟩:=hbody f cdv A outer s H E hr
 exact ⟨t,zln p,zgR q hsp⟩
theorem DefV.of {x:Str} {st:Stmt} {N ps:List Str} {k:Nat} {b:MS} (h:HasFn K mg x st) (S:zat N ps (zab st))
  (bind:∀ (kV doc pm:Value) (an:Option Addr) (cdv ct:Value) (us:List Value),us.length=ps.length→bindArgs (PySem.W.fnOf x x (zau st) (zai st) (zab st) .none kV doc pm an cdv ct) ⟨us,[]⟩ = pure (ps.zip us))
  (hbody:∀ (f:Addr) (cdv:Value) (A:Around) (outer:List Env) (s:Shared) (H:Hp) (E:XK),Room k (A.deeper (envOfC x (zab st) s.heap.objs.size f cdv)) →
   VSs (cxX P w K mg base N x (zab st) f cdv A outer s H E) (fun _=>E) (zai st) b):DefV P w K mg base x (k + 1) ps (fnF N.length b):=by
 obtain ⟨f,fd,hm,F⟩:=h.ex
 exact ⟨f,fd,zmy F S hbody,hm,F.kp,F.binds bind⟩
abbrev DefN (P:Program) (w:World) (K:PySem.W.Frag) (mg:Str→Option Value) (base:Heap) (x:Str) (k:Nat) (ps:List Str) (F:List A→Mo A):Prop:=Def P w K mg base x k ps (fun vs H Q _=>spV K ps.length F vs H Q fun _ _ _=>False)
theorem zjY {k:Nat} {f:Addr} {fd:FuncData} {ps:List Str} {sp:Sp} (F:FnOk P w K mg base (CXE P w) k f fd ps sp):FnOk P w K mg base CX0 k f fd ps (fun vs H Q _=>sp vs H Q fun _ _ _=>False) :=
 ⟨fun vs H Q E h=>F.len _ _ _ _ h,fun A outer s H args us vs Q E hr e0 hb r hsp=>codeAny_mono (F.run A outer s H args us vs Q _ hr e0 hb r hsp) fun r s' hq=>by
  cases r with
  | error ev=>obtain ⟨x,cls,dx,H',_,_,_,_,_,_,q⟩:=hq;exact q.elim
  | ok fl=>cases fl <;> exact hq⟩
theorem DefV.calm {x:Str} {k:Nat} {ps:List Str} {F:List A→Mo A} (D:DefV P w K mg base x k ps F):DefN P w K mg base x k ps F:=by
 obtain ⟨f,fd,h1,h2,h3,h4⟩:=D.ex
 exact ⟨f,fd,zjY h1,h2,h3,h4⟩
def zlJ (K:PySem.W.Frag):Sp:=fun vs H Q _=>∃ (a:Addr) (ns:List Int),vs=[.ref a]∧SqL K H a (ns.map V.int)∧ns.length ≤ 63∧∀ H',Q (.bl true) H'
theorem zp6 {fa:Addr} {fd:FuncData} {k:Nat} {F:List A→Mo A} (h1:FnOk P w K mg base (CXE P w) k fa fd ["_law_script"] (spV K 1 F)) (hF:∀ ns:List Int,ns.length ≤ 63→∃ Ω,F [.scr ns] []=some (.ok (.bl true),Ω)) :
  FnOk P w K mg base CX0 k fa fd ["_law_script"] (zlJ K):=by
 refine (zjY h1).imp fun vs H Q E hq=>?_
 obtain ⟨a,ns,rfl,hs,hl,q⟩:=hq
 obtain ⟨Ω,e⟩:=hF ns hl
 refine ⟨rfl,H,[],[],[.scr ns],⟨Same.refl _,List.nodup_nil,rfl,fun a ha=>by simp at ha,fun k c a h=>by simp at h,fun b k i k' i' h=>by obtain ⟨_,_,_,_,_,_,_,_,_,q,_⟩:=h;simp at q⟩, .cons (by simp only [Den];exact ⟨a,rfl,hs⟩) .nil,?_⟩
 rw [e]
 intro v H' G' ι' _ _ d
 simp only [Den] at d
 subst d
 exact q H'
end
section
variable {X:Cx} {W:WX} {x:Str} {p pos:Pos} {e:Expr} {es:List Expr} {fs:Ev→Mo (List A)}
@[simp] def zaA (n:Nat) (F:List A→Mo A):List A→Mo A:=fun as=>if as.length=n then F as else stuck
theorem zj8 {K:PySem.W.Frag} {G G1:Hp} {ι ι1:List Addr} {σ:L2.St} {Q:VK} {r:Option (Rs A × Sto)} {W:WX} (h:Post K (Den K) W G ι σ Q r) (x1:Ext G ι G1 ι1):Post K (Den K) (fun _=>fun cls dx H'=>W σ cls dx H') G1 ι1 [] Q r:=by
 match r,h with
 | some (.ok a,Ω2),h=>exact fun v H' G' ι' x2 w2 d2=>h v H' G' ι' (x1.trans x2) w2 d2
 | some (.exc a,Ω2),h=>exact fun cls dx H' G' ι' x2 w2 d2=>h cls dx H' G' ι' (x1.trans x2) w2 d2
theorem zbU {k:Nat} {ps:List Str} {F:List A→Mo A} (T:zfT X W) (D:DefV X.prog X.w X.K X.mg X.base x k ps F) (hr:Room k X.A) (hg:Gl X x) (ha:VA X W (e :: es) fs)
  (hdb:(x == ("__debug__" : Str))=false:=by decide) (he:starEach (e :: es) X.env=(false,eval e X.env) :: starEach es X.env:=by rfl) (hpl:(backTo pos (starEach es X.env)).any (·.1)=false:=by rfl):VE X W (.Call (.Name x p) (e :: es) [] pos) (vCl (zaA ps.length F) fs):=by
 obtain ⟨t,p1,s1⟩:=ha
 refine ⟨_,znh T D hr hg p1 hdb he hpl,fun G ι Ω H σ ρ Q w r h=>?_⟩
 refine s1 G ι Ω H σ ρ _ w r (Post.mb h fun as Ω1 vs H1 G1 ι1 x1 w1 d1 h1=>?_)
 unfold zaA at h1
 split at h1
 ·rename_i hl
  exact ⟨by rw [d1.length];exact hl,G1,ι1,Ω1,as,w1,d1,zj8 h1 (Ext.refl _ _)⟩
 ·exact False.elim h1
@[simp] def noX (F:List A→Mo A):List A→Mo A:=fun as Ω=>match F as Ω with
 | some (.exc _,_)=>none
 | r=>r
theorem zfI {k:Nat} {ps:List Str} {F:List A→Mo A} (D:DefN X.prog X.w X.K X.mg X.base x k ps F) (hr:Room k X.A) (hg:Gl X x) (ha:VA X W (e :: es) fs)
  (hdb:(x == ("__debug__" : Str))=false:=by decide) (he:starEach (e :: es) X.env=(false,eval e X.env) :: starEach es X.env:=by rfl) (hpl:(backTo pos (starEach es X.env)).any (·.1)=false:=by rfl):VE X W (.Call (.Name x p) (e :: es) [] pos) (vCl (noX (zaA ps.length F)) fs):=by
 obtain ⟨t,p1,s1⟩:=ha
 refine ⟨_,zp3 D hr hg p1 hdb he hpl,fun G ι Ω H σ ρ Q w r h=>?_⟩
 refine s1 G ι Ω H σ ρ _ w r (Post.mb h fun as Ω1 vs H1 G1 ι1 x1 w1 d1 h1=>?_)
 unfold noX zaA at h1
 rw [List.append_nil]
 by_cases hl:as.length=ps.length
 ·rw [if_pos hl] at h1
  refine ⟨by rw [d1.length];exact hl,G1,ι1,Ω1,as,w1,d1,?_⟩
  revert h1
  generalize F as Ω1=q2
  intro h1
  match q2,h1 with
  | some (.ok a,Ω2),h1=>exact h1
 ·rw [if_neg hl] at h1
  exact False.elim h1
abbrev cI (i:Int):Ev→Mo A:=fun _=>ret (.int i)
abbrev cB (i:Bool):Ev→Mo A:=fun _=>ret (.bl i)
abbrev cS (i:Str):Ev→Mo A:=fun _=>ret (.str i)
abbrev cN:Ev→Mo A:=fun _=>ret .non
abbrev cT (n:String):Ev→Mo A:=fun _=>ret (.ty n)
abbrev a0:Ev→Mo (List A):=fun _=>ret []
abbrev sl0:Ev→Mo (Option Int):=fun _=>ret none
end
end V2
namespace V2
open PySem L2
section
variable {α β:Type} {Ω Ω':Sto} {a:A}
@[simp] theorem zq2 (x:α) (k:α→Mo β):mb (ret x) k=k x:=rfl
theorem zd1 {m:Mo α} {k:α→Mo β} {x:α} (h:m Ω=some (.ok x,Ω')):mb m k Ω=k x Ω':=by unfold mb;rw [h]
@[simp] theorem zqx (x:α) (k:α→Mo β):mb (need (some x)) k=k x:=rfl
theorem zmH {p:Prop} [Decidable p] (k:Unit→Mo β) (h:p):mb (chk p) k=k ():=by funext Ω;simp [mb,chk,h]
@[simp] theorem zq3 (x:α):(ret x:Mo α) Ω=some (.ok x,Ω):=rfl
@[simp] theorem zbc:trim Ω (some (.ok a,Ω))=some (.ok a,Ω):=by simp only [trim];split <;> rfl
theorem ziW {Δ:Sto} (h:Cl Ω.length a):trim Ω (some (.ok a,Ω ++ Δ))=some (.ok a,Ω):=by
 simp only [trim]
 rw [if_pos ⟨by simp,h⟩]
@[simp] theorem zq1 (x:α) (ρ:Ev) (k:α→Sto→OS):sM (ret x) ρ k=k x:=rfl
theorem zeg {m:Mo α} {ρ:Ev} {k:α→Sto→OS} {x:α} (h:m Ω=some (.ok x,Ω')):sM m ρ k Ω=k x Ω':=by unfold sM;rw [h]
@[simp] theorem zbi (ρ:Ev):outR (some (.ret a,ρ,Ω))=some (.ok a,Ω):=rfl
@[simp] theorem zqB (ρ:Ev):outR (some (.nx,ρ,Ω))=some (.ok .non,Ω):=rfl
theorem zak {f g:MS} {ρ ρ1:Ev} (h:f ρ Ω=some (.nx,ρ1,Ω')):sSeq f g ρ Ω=g ρ1 Ω':=by unfold sSeq;rw [h]
theorem zbb {f g:MS} {ρ ρ1:Ev} (h:f ρ Ω=some (.ret a,ρ1,Ω')):sSeq f g ρ Ω=some (.ret a,ρ1,Ω'):=by unfold sSeq;rw [h]
theorem zdP {α:Type} (xs:List α) (n:Nat):atI xs (n:Int)=xs[n]?:=by
 unfold atI ixN
 rw [if_pos (by omega)]
 by_cases h:(n:Int) < xs.length
 ·rw [if_pos h];simp
 ·rw [if_neg h];simp;omega
theorem zfQ {α:Type} (xs:List α) (n:Nat):atI xs (OfNat.ofNat n:Int)=xs[n]?:=zdP xs n
theorem zgw {α:Type} (xs:List α):atI xs 0=xs[0]?:=zdP xs 0
theorem zlg {α:Type} (xs:List α):atI xs 1=xs[1]?:=zdP xs 1
end
@[simp] theorem znj:isTy "int" "bool" = some false:=by simp [isTy]
@[simp] theorem zlq:isTy "tuple" "tuple" = some true:=by simp [isTy]
@[simp] theorem zmv:isTy "list" "list" = some true:=by simp [isTy]
@[simp] theorem zos (Ω:Sto) (ds:List A):zao Ω (.lst ds)=some ds:=rfl
@[simp] theorem zom (Ω:Sto) (ns:List Int):zao Ω (.scr ns)=some (ns.map A.int):=rfl
@[simp] theorem zoo (Ω:Sto) (ds:List A):zao Ω (.tup ds)=none:=rfl
@[simp] theorem zop (Ω:Sto) (i:Int):zao Ω (.int i)=none:=rfl
@[simp] theorem zot (Ω:Sto) (ds:List A):zbG Ω (.lst ds)=some ds:=rfl
@[simp] theorem zon (Ω:Sto) (ns:List Int):zbG Ω (.scr ns)=some (ns.map A.int):=rfl
@[simp] theorem zor (Ω:Sto) (ds:List A):zbG Ω (.tup ds)=some ds:=rfl
@[simp] theorem zoq (Ω:Sto) (k:Nat):zbG Ω (.cel k)=zao Ω (.cel k):=rfl
@[simp] theorem zqc (Ω:Sto) (i:Int):tyA Ω (.int i)=some "int":=rfl
@[simp] theorem zq4 (Ω:Sto) (i:Bool):tyA Ω (.bl i)=some "bool":=rfl
@[simp] theorem zqH (Ω:Sto) (i:Str):tyA Ω (.str i)=some "str":=rfl
@[simp] theorem zqQ (Ω:Sto):tyA Ω .non=some "NoneType":=rfl
@[simp] theorem zqX (Ω:Sto) (ds:List A):tyA Ω (.tup ds)=some "tuple":=rfl
@[simp] theorem zqi (Ω:Sto) (ds:List A):tyA Ω (.lst ds)=some "list":=rfl
@[simp] theorem zoE:zfb .non=some true:=rfl
@[simp] theorem zpM (i:Int):zfb (.int i)=some false:=rfl
@[simp] theorem zpz (ds:List A):zfb (.tup ds)=some false:=rfl
@[simp] theorem zpF (ds:List A):zfb (.lst ds)=some false:=rfl
@[simp] theorem zp9 (b:Bool):zfb (.bl b)=some false:=rfl
theorem zgb {Ω:Sto} {k:Nat} {ds:List A} (h:Ω[k]? = some (.lst ds)):zao Ω (.cel k)=some ds:=by simp [zao,h]
theorem zg7 {Ω:Sto} {k:Nat} {ds:List A} (h:Ω[k]? = some (.lst ds)):zhi Ω (.cel k)=some (k,ds):=by simp [zhi,h]
theorem zmO {Ω:Sto} {a:A} {ds:List A} (h:zao Ω a=some ds):isL Ω a:=⟨ds,h⟩
section
variable {ok:Sto→Prop} {g:A→MS} {b:MS} {x:A} {xs:List A} {ρ ρ0 ρ1:Ev} {Ω Ω0 Ω1:Sto} {a:A}
theorem zlH (h:ok Ω):fFor ok g b [] ρ Ω=some (.nx,ρ,Ω):=by simp [fFor,h]
theorem zdz (h:ok Ω) (hg:g x ρ Ω=some (.nx,ρ0,Ω0)) (hb:b ρ0 Ω0=some (.nx,ρ1,Ω1)):fFor ok g b (x :: xs) ρ Ω=fFor ok g b xs ρ1 Ω1:=by simp [fFor,h,hg,hb]
theorem znH (h:ok Ω) (hg:g x ρ Ω=some (.nx,ρ0,Ω0)) (hb:b ρ0 Ω0=some (.ct,ρ1,Ω1)):fFor ok g b (x :: xs) ρ Ω=fFor ok g b xs ρ1 Ω1:=by simp [fFor,h,hg,hb]
theorem zmd (h:ok Ω) (hg:g x ρ Ω=some (.nx,ρ0,Ω0)) (hb:b ρ0 Ω0=some (.ret a,ρ1,Ω1)):fFor ok g b (x :: xs) ρ Ω=some (.ret a,ρ1,Ω1):=by simp [fFor,h,hg,hb]
theorem zlY {e:Exc} (h:ok Ω) (hg:g x ρ Ω=some (.nx,ρ0,Ω0)) (hb:b ρ0 Ω0=some (.exc e,ρ1,Ω1)):fFor ok g b (x :: xs) ρ Ω=some (.exc e,ρ1,Ω1):=by simp [fFor,h,hg,hb]
theorem ze2 (I:Nat→Ev→Sto→Prop) (hok:∀ i ρ Ω,I i ρ Ω→ok Ω):∀ (xs:List A) (j:Nat) (ρ:Ev) (Ω:Sto),I j ρ Ω →
  (∀ i x ρ Ω,xs[i]? = some x→I (j + i) ρ Ω→∃ ρ0 Ω0 ρ1 Ω1,g x ρ Ω=some (.nx,ρ0,Ω0)∧(b ρ0 Ω0=some (.nx,ρ1,Ω1)∨b ρ0 Ω0=some (.ct,ρ1,Ω1))∧I (j + i + 1) ρ1 Ω1) →
  ∃ ρ' Ω',fFor ok g b xs ρ Ω=some (.nx,ρ',Ω')∧I (j + xs.length) ρ' Ω'
 | [],j,ρ,Ω,h0,_=>⟨ρ,Ω,zlH (hok _ _ _ h0),h0⟩
 | x :: xs,j,ρ,Ω,h0,turn=>by
  obtain ⟨ρ0,Ω0,ρ1,Ω1,e1,e2,e3⟩:=turn 0 x ρ Ω rfl h0
  obtain ⟨ρ',Ω',q1,q2⟩:=ze2 I hok xs (j + 1) ρ1 Ω1 e3 fun i y ρ Ω hy hI=>by
   have:=turn (i + 1) y ρ Ω (by simpa using hy) (by rw [show j + (i + 1)=j + 1 + i by omega];exact hI)
   rwa [show j + (i + 1) + 1=j + 1 + i + 1 by omega] at this
  refine ⟨ρ',Ω',?_,by rw [List.length_cons,show j + (xs.length + 1)=j + 1 + xs.length by omega];exact q2⟩
  rcases e2 with e2 | e2
  ·rw [zdz (hok _ _ _ h0) e1 e2,q1]
  ·rw [znH (hok _ _ _ h0) e1 e2,q1]
end
section
variable {c:Ev→Mo Bool} {b:MS} {n:Nat} {ρ ρ1:Ev} {Ω Ω1 Ω2:Sto} {a:A}
end
end V2
namespace V2
open PySem PySem.Spec PyProof.Rows L2
def Ite (K:PySem.W.Frag) (a:Addr):It :=
 ⟨fun i H=>∃ xs x,SqL K H a xs∧xs[i]? = some x,fun i H x H'=>∃ p y,H p=none∧H'=upd H p (.tup [.int (i:Int),y])∧x = .ref p∧∀ xs,SqL K H a xs→xs[i]? = some y,fun i H=>∃ xs,SqL K H a xs∧xs.length ≤ i⟩
section
variable {X:Cx} {pins:List (Addr × Obj)} {σ:L2.St} {H:Hp} {s:Shared} {h':Heap}
theorem Inv.zoh {t':Nat} {e it:Addr} (I:Inv X pins σ H s) (k:∀ b o,b ≠ e→b ≠ it→s.heap.get? b=some o→h'.get? b=some o) (fe:FpOk X pins H e) (ft:FpOk X pins H it):Inv X pins σ H { s with heap:=h',toks:=t' }:=by
 obtain ⟨a0,a1,a2,a3,a4,a5⟩:=fe
 obtain ⟨b0,b1,b2,b3,b4,b5⟩:=ft
 have ne:∀ b u,H b=some u→b ≠ e:=fun b u q z=>by rw [z,a0] at q;cases q
 have nit:∀ b u,H b=some u→b ≠ it:=fun b u q z=>by rw [z,b0] at q;cases q
 refine I.step (g':=s.gens) (d':=s.drawn) (ch:=[e,it]) (fun b hb=>?_) (fun b o _ _ hc q _=>k b o (fun z=>hc (by simp [z])) (fun z=>hc (by simp [z])) q) (fun b o _ _ hc q _=>⟨o.slots,k b o (fun z=>hc (by simp [z])) (fun z=>hc (by simp [z])) q⟩) (fun _ _ _ _ n=>n)
  (fun b o hc q=>⟨o,k b o (fun z=>hc (by simp [z])) (fun z=>hc (by simp [z])) q⟩) (fun _ _ q=>q) (fun _ _ _ q=>q) (fun b ps q=>⟨#[],by rw [q];simp⟩) (fun m hm=>?_) (fun b u q=>?_) I.bare
 ·rcases List.mem_cons.mp hb with z | z
  ·subst z;exact ⟨a3,a1,a4,a5⟩
  ·have z:b=it:=by simpa using z
   subst z;exact ⟨b3,b1,b4,b5⟩
 ·obtain ⟨o,es,ep,ho,r⟩:=hm
  exact ⟨o,es,ep,k _ o (Ne.symm a1) (Ne.symm b1) ho,r⟩
 ·refine (I.hok b u q).stay (fun c v hc q'=>k c v ?_ ?_ q') (fun _ q=>q) fun _ _ q=>q
  ·rcases hc with z | z
   ·rw [z];exact ne b u q
   ·exact ne c _ z
  ·rcases hc with z | z
   ·rw [z];exact nit b u q
   ·exact nit c _ z
end
theorem Inv.zqC {X:Cx} {pins:List (Addr × Obj)} {σ:L2.St} {H:Hp} {s:Shared} {p:Addr} {o:HO} (I:Inv X pins σ H s) (hp:H p=none) (h0:X.s₀.heap.get? p=none) (hL:p ≠ X.env.locals) (hC:∀ x c,X.env.cells.lookup x=some c→c ≠ p) (hP:∀ q ∈ X.pn ++ pins,q.1 ≠ p)
  (hok:HOk X.prog X.w (upd H p o) s.heap):Inv X pins σ (upd H p o) s where
 ok:=I.ok
 os:=I.os
 bare:=I.bare
 base:={
  keep:=I.base.keep
  slot:=I.base.slot
  free:=fun b ob q n hx=>by
   have hb:b ≠ p:=fun z=>by subst z;rw [h0] at q;cases q
   rw [zaj hb];exact I.base.free b ob q n hx
  there:=I.base.there
  tups:=fun b xs q=>by have z:=I.base.tups b xs q;rw [zaj (zaB z hp)];exact z
  frzs:=fun b ob u q=>by have z:=I.base.frzs b ob u q;rw [zaj (zaB z hp)];exact z
  tbls:=fun b ps q=>by obtain ⟨more,z⟩:=I.base.tbls b ps q;exact ⟨more,by rw [zaj (zaB z hp)];exact z⟩ }
 loc:=I.loc
 cell:=I.cell
 free:=by rw [zaj (Ne.symm hL)];exact I.free
 freeC:=fun x c q=>by rw [zaj (hC x c q)];exact I.freeC x c q
 pin:=fun q hq=>by
  obtain ⟨a,b,c⟩:=I.pin q hq
  exact ⟨a,by rw [zaj (hP q hq)];exact b,c⟩
 hok:=hok
 len:=I.len
theorem zkr {P:Program} {w:World} {K:PySem.W.Frag} {elts:List Expr} {x1:Nat} {tp:Pos} (a e it:Addr) (hne:e ≠ it):Turn P w K (.Tuple elts x1 tp) (Ite K a) [e,it] e (fun i h=>(∃ old,IsEnum h e it (i:Int) old)∧h.IsListIter it a i) where
 mem:=by simp
 obj:=fun i h st b hb=>by
  obtain ⟨⟨old,st1⟩,o,q,c,d⟩:=st
  rcases List.mem_cons.mp hb with z | z
  ·subst z;exact ⟨_,st1,fun v z=>by cases z⟩
  ·have z:b=it:=by simpa using z
   subst z;exact ⟨o,q,fun v z=>by rw [d] at z;cases z⟩
 keep:=fun i h h' st k=>⟨let ⟨old,q⟩:=st.1; ⟨old,k e (by simp) _ q⟩,st.2.at fun o q=>k it (by simp) o q⟩
 item:=by
  intro X hP hw hK hc i pins s σ H E I hf st hg
  subst hP hw hK
  obtain ⟨⟨old,st1⟩,st2⟩:=st
  obtain ⟨xs,x,hq,hx⟩:=hg
  obtain ⟨its,rv,p,hz⟩:=I.list hq
  obtain ⟨u,hu,ru⟩:=rv.get hx
  have fe:=hf e (by simp)
  have ft:=hf it (by simp)
  have hse:e < s.heap.objs.size:=Heap.lt_size st1
  have hsi:it < s.heap.objs.size:=let ⟨_,q,_⟩:=st2;Heap.lt_size q
  refine wpAny_pyNext_enum_item st1 st2 p.isList (x:=u) (by simpa using hu) hne fun h1 e1 i1 t1 z1 k1=>?_
  refine ⟨_,rfl,wpAny_letOwnedTupleGo_enum (s:={ s with heap:=h1,toks:=s.toks + 1 }) e1 fun h2 e2 s2=>?_⟩
  have hp0:H s.heap.objs.size=none:=I.hok.fresh (Nat.le_refl _)
  have k2:∀ b o,b ≠ e→b ≠ it→s.heap.get? b=some o→h2.get? b=some o:=fun b o n1 n2 q=>s2.extBut b o n1 (k1 b o n1 n2 q)
  have t2:h2.get? s.heap.objs.size=some { cls := .type "tuple",data := .seq #[.int (i:Int) s.toks,u] }:=s2.extBut _ _ (Nat.ne_of_gt hse) t1
  have I1:Inv X pins σ H { s with heap:=h2,toks:=s.toks + 1 }:=Inv.zoh (t':=s.toks + 1) I k2 fe ft
  have i2:h2.IsListIter it a (i + 1):=i1.extBut s2.extBut (Ne.symm hne)
  have hok:HOk X.prog X.w (upd H s.heap.objs.size (.tup [.int (i:Int),x])) h2:=by
   refine fun b o q=>?_
   by_cases eb:b=s.heap.objs.size
   ·subst eb
    rw [zaG] at q
    cases q
    exact ⟨by show 2 ≤ sizeLine;decide,[.int (i:Int) s.toks,u], .cons ⟨_,rfl⟩ (.cons ru .nil),⟨_,t2,rfl,_,rfl⟩⟩
   ·rw [zaj eb] at q
    exact (I1.hok b o q).stay (fun c v _ z=>z) (fun c z=>by rw [zaj (zaB z hp0)];exact z) fun c xs z=>by rw [zaj (zaB z hp0)];exact z
  have fp:FpOk X pins H s.heap.objs.size:=I.fpOk (Nat.le_refl _) hp0
  have h0:X.s₀.heap.get? s.heap.objs.size=none:=by
   cases q:X.s₀.heap.get? s.heap.objs.size with
   | none=>rfl
   | some ob=>exact absurd (Nat.lt_of_lt_of_le (Heap.lt_size q) I.sz) (Nat.lt_irrefl _)
  have I2:Inv X pins σ (upd H s.heap.objs.size (.tup [.int (i:Int),x])) { s with heap:=h2,toks:=s.toks + 1 }:=Inv.zqC I1 hp0 h0 fp.2.1 fp.2.2.2.2.1 fp.2.2.2.2.2 hok
  refine ⟨.ref s.heap.objs.size,_,I2,rfl,⟨_,x,hp0,rfl,rfl,fun ys hy=>by rw [I.ziH hy hq];exact hx⟩,⟨⟨_,e2⟩,i2⟩,fun b hb=>?_⟩
  rcases List.mem_cons.mp hb with z | z
  ·subst z;rw [zaj (Nat.ne_of_lt hse)];exact fe.1
  ·have z:b=it:=by simpa using z
   subst z;rw [zaj (Nat.ne_of_lt hsi)];exact ft.1
 done:=by
  intro X hP hw hK hc i pins s σ H E I hf st hg
  subst hP hw hK
  obtain ⟨⟨old,st1⟩,st2⟩:=st
  obtain ⟨xs,hq,hx⟩:=hg
  obtain ⟨its,rv,p,hz⟩:=I.list hq
  obtain ⟨f0,f1,f2,f3,f4,f5⟩:=hf it (by simp)
  have hl:=rv.length
  exact wpAny_pyNext_enum_end (I.ok.hd hc) st1 st2 p.isList (by simp;omega) fun h' eb=>⟨rfl,I.turned (t':=s.toks) (fun b o hb e=>eb b o hb e) f0 f1 f3 f4 f5⟩
 self:=fun _ _ _ _ _ st h=>let ⟨_,q⟩:=st.1;wpAny_pyIter_enum q h
section
variable {X:Cx} {W:WX} {pos:Pos}
theorem zni {elts:List Expr} {x1:Nat} {tp p:Pos} {l:Expr} {tl:TE} (hg:Gl X "enumerate") (hm:X.mg "enumerate" = none) (hl:PE X l tl) (hs:starEach [l] X.env=[(false,eval l X.env)]:=by rfl) :
  PI X (.Tuple elts x1 tp) (.Call (.Name "enumerate" p) [l] [] pos) (fun σ H R=>tl σ H fun x H1=>∃ a,x = .ref a∧(∃ xs,SqL X.K H1 a xs)∧R (Ite X.K a) H1):=by
 intro pins s σ H R I h
 refine wpAny_Call_Name_kw (zgj I hg hm boot_enumerate ?_)
 refine PyProof.Rows.callWith_type1 (thn (zgn hl zk8 hs pos pins s σ H (fun vs H1=>match vs with
  | [x]=>∃ a,x=V.ref a∧(∃ xs,SqL X.K H1 a xs)∧R (Ite X.K a) H1
  | _=>False) I h) fun us s1 ⟨vs,H1,I1,r1,q1⟩=>?_) hs rfl
 match vs,q1 with
 | [x],q1 =>
 obtain ⟨a,e1,⟨xs,hq⟩,q⟩:=q1
 obtain ⟨u,rfl,ru⟩:=vals1 r1
 subst e1
 cases ru
 obtain ⟨its,rv,pl,hz⟩:=I1.list hq
 refine call_enumerate_list pl.isList fun h' hE hI hsz hk=>?_
 refine wpAny_pyIter_enum (s:={ s1 with heap:=h' }) hE ?_
 have I2:Inv X pins σ H1 { s1 with heap:=h' }:=I1.kept (t':=s1.toks) hk
 refine ⟨_,[s1.heap.objs.size + 1,s1.heap.objs.size],_,_,H1,rfl,I2,zkr a _ _ (Nat.succ_ne_self _),⟨⟨.none,hE⟩,hI⟩,fun b hb=>?_,q⟩
 rcases List.mem_cons.mp hb with z | z
 ·subst z;exact I1.fpOk (Nat.le_succ _) (I1.hok.fresh (Nat.le_succ _))
 ·have z:b=s1.heap.objs.size:=by simpa using z
  subst z;exact I1.fpOk (Nat.le_refl _) (I1.hok.fresh (Nat.le_refl _))
def zaQ:Nat→List A→List A
 | _,[]=>[]
 | n,x :: xs => .tup [.int (n:Int),x] :: zaQ (n + 1) xs
theorem zgM:∀ (n:Nat) (xs:List A),(zaQ n xs).length=xs.length
 | _,[]=>rfl
 | n,x :: xs=>by simp only [zaQ,List.length_cons,zgM (n + 1) xs]
theorem ziK:∀ (n i:Nat) (xs:List A),(zaQ n xs)[i]? = xs[i]?.map fun x => .tup [.int ((n + i:Nat):Int),x]
 | _,_,[]=>by simp [zaQ]
 | n,0,x :: xs=>by simp [zaQ]
 | n,i + 1,x :: xs=>by
  simp only [zaQ,List.getElem?_cons_succ]
  rw [ziK (n + 1) i xs]
  have e:n + 1 + i=n + (i + 1):=by omega
  rw [e]
def enumSrc (a:A) (ds:List A):Src:=⟨zaQ 0 ds,fun Ω=>zao Ω a=some ds⟩
@[simp] def zkw (f:Ev→Mo A):Ev→Mo Src:=fun ρ=>mb (f ρ) fun a Ω=>match zao Ω a with
 | some ds=>some (.ok (enumSrc a ds),Ω)
 | none=>none
theorem zmi {K:PySem.W.Frag} {G:Hp} {ι:List Addr} {p:Addr} {a:A} {ds:List A} (d:Den K G ι (.ref p) a):ItV K G ι (Ite K p) (enumSrc a ds):=by
 have key:∀ G' ι' Ω' H',Ext G ι G' ι'→Wd K G' ι' Ω' H'→zao Ω' a=some ds→∃ xs,SqL K H' p xs∧DenL K G' ι' xs ds:=fun G' ι' Ω' H' e w h=>by
  obtain ⟨q,xs,h1,h2,h3⟩:=zbt w (d.ext e) h
  cases h1
  exact ⟨xs,h2,h3⟩
 refine ⟨fun G' ι' Ω' H' e w h i hi=>?_,fun G' ι' Ω' H' e w h i hi=>?_,fun G' ι' Ω' H' e w h i x H2 y hy hd=>?_⟩
 ·obtain ⟨xs,h2,h3⟩:=key G' ι' Ω' H' e w h
  have hl:i < xs.length:=by rw [h3.length,← zgM 0 ds];exact hi
  exact ⟨xs,xs[i],h2,List.getElem?_eq_getElem hl⟩
 ·obtain ⟨xs,h2,h3⟩:=key G' ι' Ω' H' e w h
  exact ⟨xs,h2,by rw [h3.length,← zgM 0 ds];exact hi⟩
 ·obtain ⟨xs,h2,h3⟩:=key G' ι' Ω' H' e w h
  obtain ⟨q,z,e1,e2,e3,e4⟩:=hd
  subst e2 e3
  have hy':(zaQ 0 ds)[i]? = some y:=hy
  rw [ziK] at hy'
  cases ed:ds[i]? with
  | none=>rw [ed] at hy';cases hy'
  | some d' =>
   rw [ed] at hy'
   cases hy'
   obtain ⟨z',q1,q2⟩:=h3.get ed
   rw [e4 xs h2] at q1
   cases q1
   refine ⟨upd G' q (.tup [.int (i:Int),z]),Ext.new (w.zgL e1) _,w.new e1 _,?_⟩
   simp only [Den]
   exact ⟨q,_,rfl,zaG, .cons (by simp only [Den,Nat.zero_add]) (.cons (q2.ext (Ext.new (w.zgL e1) _)) .nil)⟩
theorem zkd {elts:List Expr} {x1:Nat} {tp p:Pos} {l:Expr} {fe:Ev→Mo A} (hg:Gl X "enumerate") (hm:X.mg "enumerate" = none) (h:VE X W l fe) (hs:starEach [l] X.env=[(false,eval l X.env)]:=by rfl) :
  VI X W (.Tuple elts x1 tp) (.Call (.Name "enumerate" p) [l] [] pos) (zkw fe):=by
 obtain ⟨t,p,s⟩:=h
 refine ⟨_,zni hg hm p hs,fun G ι Ω H σ ρ R w r h=>?_⟩
 refine s G ι Ω H σ ρ _ w r (Post.mb h fun a Ω1 v H1 G1 ι1 x1 w1 d1 h1=>?_)
 cases e:zao Ω1 a with
 | none=>simp only [e] at h1;exact False.elim h1
 | some ds =>
  simp only [e] at h1
  obtain ⟨q,xs,h2,h3,h4⟩:=zbt w1 d1 e
  subst h2
  exact ⟨q,rfl,⟨xs,h3⟩,h1 _ H1 G1 ι1 (Ext.refl _ _) w1 (zmi d1)⟩
end
end V2
namespace V2
open PySem PySem.Spec PyProof.Rows L2
def lcEv (n:Nat) (js:List Nat) (ρ:Ev):Ev:=List.replicate n none ++ js.map (fun j=>(ρ[j]?).join)
def VIf (X:Cx) (W:WX) (ifs:List Expr) (f:Ev→Mo Bool):Prop:=∃ t,PIf X ifs t∧Sim X.K relB W t f
abbrev yesM:Ev→Mo Bool:=fun _=>ret true
theorem zgm {X:Cx} {W:WX}:VIf X W [] yesM:=⟨_,zog,fun _ _ _ _ _ _ _ w _ q=>zax w rfl q⟩
theorem zkM {X:Cx} {W:WX} {c:Expr} {f:Ev→Mo Bool} (h:VT X W c f):VIf X W [c] f:=let ⟨t,p,s⟩:=h; ⟨t,zn1 p,s⟩
open Classical in
noncomputable def fLC (ok:Sto→Prop) (g:A→MS) (c:Ev→Mo Bool) (e:Ev→Mo A) (n:Nat):List A→Ev→Sto→Option (Ev × Sto)
 | [],ρ,Ω=>if ok Ω then some (ρ,Ω) else none
 | x :: xs,ρ,Ω=>if ok Ω then (match g x ρ Ω with
  | some (.nx,ρ1,Ω1)=>(match c ρ1 Ω1 with
   | some (.ok true,Ω2)=>(match e ρ1 Ω2 with
    | some (.ok y,Ω3)=>(match Ω3[n]? with
     | some (.lst ys)=>if ys.length < sizeLine then fLC ok g c e n xs ρ1 (Ω3.set n (.lst (ys ++ [y]))) else none
     | _=>none)
    | _=>none)
   | some (.ok false,Ω2)=>fLC ok g c e n xs ρ1 Ω2
   | _=>none)
  | _=>none) else none
open Classical in
noncomputable def znt (cf:Bool) (Ω1:Sto) (r:Option (Ev × Sto)):Option (Rs A × Sto):=match r with
 | some (_,Ω')=>(match Ω'[Ω1.length]? with
  | some (.lst ys)=>if cf then some (.ok (.cel Ω1.length),Ω') else if Ω'.take Ω1.length=Ω1∧ClL Ω1.length ys then some (.ok (.lst ys),Ω1) else some (.ok (.lst ys),Ω'.set Ω1.length .dead)
  | _=>none)
 | none=>none
noncomputable def vLC (cf:Bool) (n:Nat) (js:List Nat) (fi:Ev→Mo Src) (g:A→MS) (c:Ev→Mo Bool) (e:Ev→Mo A):Ev→Mo A:=fun ρ=>mb (fi ρ) fun S Ω1=>znt cf Ω1 (fLC S.ok g c e Ω1.length S.ds (lcEv n js ρ) (Ω1 ++ [.lst []]))
theorem zoI {ok:Sto→Prop} {g:A→MS} {c:Ev→Mo Bool} {e:Ev→Mo A} {n:Nat} {xs:List A} {ρ:Ev} {Ω:Sto} {r:Ev × Sto} (h:fLC ok g c e n xs ρ Ω=some r):ok Ω:=by
 cases xs with
 | nil=>unfold fLC at h;by_cases hp:ok Ω;exact hp;rw [if_neg hp] at h;cases h
 | cons=>unfold fLC at h;by_cases hp:ok Ω;exact hp;rw [if_neg hp] at h;cases h
theorem zoc {K:PySem.W.Frag} {G:Hp} {ι:List Addr} {σ:L2.St} {ρ:Ev} (ls:List Str) (js:List Nat) (r:EnvR K G ι σ ρ):EnvR K G ι (lcSt ls js σ) (lcEv ls.length js ρ):=by
 unfold lcSt lcEv
 refine ⟨by simp,fun i d h=>?_⟩
 by_cases hi:i < ls.length
 ·rw [List.getElem?_append_left (by simpa using hi)] at h
  rw [List.getElem?_replicate,if_pos hi] at h
  cases h
 ·rw [List.getElem?_append_right (by simpa using Nat.le_of_not_lt hi),List.length_replicate,List.getElem?_map] at h
  cases e:js[i - ls.length]? with
  | none=>rw [e] at h;cases h
  | some j =>
   rw [e] at h
   have h':(ρ[j]?).join=some d:=Option.some.inj h
   obtain ⟨v,q1,q2⟩:=r.2 j d (join_some h')
   refine ⟨v,?_,q2⟩
   rw [List.getElem?_append_right (by simpa using Nat.le_of_not_lt hi),List.length_map,List.getElem?_map,e]
   show some (σ[j]?).join=_
   rw [q1];rfl
section
variable {K:PySem.W.Frag} {W:WX}
theorem zpk {ls:List Str} {js:List Nat} {wi:TI} {tg:TG} {tc:TT} {te:TE} {fi:Ev→Mo Src} {g:A→MS} {c:Ev→Mo Bool} {e:Ev→Mo A} {cf:Bool} (W0:WX) (hi:Sim K (relI K) W wi fi) (hg:SimG K W0 tg g) (hc:Sim K relB W0 tc c) (he:Sim K (Den K) W0 te e) :
  Sim K (Den K) W (tLC ls js wi tg tc te) (vLC cf ls.length js fi g c e):=by
 intro G ι Ω H σ ρ Q w r h
 refine hi G ι Ω H σ ρ _ w r (Post.mb h fun S Ω1 J H1 G1 ι1 x1 w1 j1 h1=>?_)
 intro D hD
 unfold znt at h1
 cases er:fLC S.ok g c e Ω1.length S.ds (lcEv ls.length js ρ) (Ω1 ++ [.lst []]) with
 | none=>rw [er] at h1;exact False.elim h1
 | some rr =>
 obtain ⟨ρe,Ωe⟩:=rr
 rw [er] at h1
 simp only at h1
 have hw0:Wd K G1 (ι1 ++ [D]) (Ω1 ++ [.lst []]) (upd H1 D (.lst [])):=w1.cell hD ⟨w1.zgL hD,[],zaG, .nil⟩
 have r0:EnvR K G1 (ι1 ++ [D]) (lcSt ls js σ) (lcEv ls.length js ρ):=zoc ls js (r.ext (x1.trans (Ext.cell D)))
 have hDk:(ι1 ++ [D])[Ω1.length]? = some D:=by rw [← w1.len];simp
 refine ⟨fun i m σ' H'=>m=S.ds.length - i∧i ≤ S.ds.length∧∃ G' ι' Ω' ρ',Ext G1 (ι1 ++ [D]) G' ι'∧Wd K G' ι' Ω' H'∧EnvR K G' ι' σ' ρ'∧fLC S.ok g c e Ω1.length (S.ds.drop i) ρ' Ω'=some (ρe,Ωe),
  ⟨_,rfl,Nat.zero_le _,G1,_,_,_,Ext.refl _ _,hw0,r0,by simpa using er⟩,?_⟩
 rintro i m σ' H' ⟨rfl,hil,G',ι',Ω',ρ',e',w',r',h'⟩
 have hok:=zoI h'
 have eJ:Ext G1 ι1 G' ι':=(Ext.cell D).trans e'
 by_cases hlt:i < S.ds.length
 ·right
  refine ⟨j1.go G' ι' Ω' H' eJ w' hok i hlt,fun σ2 H2=>∃ G2 ι2 Ω2 ρ2,Ext G1 (ι1 ++ [D]) G2 ι2∧Wd K G2 ι2 Ω2 H2∧EnvR K G2 ι2 σ2 ρ2∧fLC S.ok g c e Ω1.length (S.ds.drop (i + 1)) ρ2 Ω2=some (ρe,Ωe),fun σ2 H2 n=>?_,fun x H2 y=>?_⟩
  ·exact ⟨S.ds.length - (i + 1),by omega,rfl,hlt,n⟩
  ·obtain ⟨G2,e2,w2,d2⟩:=j1.yld G' ι' Ω' H' eJ w' hok i x H2 S.ds[i] (List.getElem?_eq_getElem hlt) y
   rw [List.drop_eq_getElem_cons hlt] at h'
   unfold fLC at h'
   rw [if_pos hok] at h'
   refine hg G2 ι' Ω' H2 σ' ρ' x S.ds[i] ⟨_,fun _ _=>False,fun _ _=>False,fun _ _=>False⟩ w2 (r'.ext e2) d2 ?_
   revert h'
   generalize g S.ds[i] ρ' Ω'=q
   intro h'
   split at h'
   ·rename_i ρ3 Ω3
    intro σ3 H3 G3 ι3 x3 w3 r3
    refine hc G3 ι3 Ω3 H3 σ3 ρ3 _ w3 r3 ?_
    revert h'
    generalize c ρ3 Ω3=q2
    intro h'
    split at h'
    ·rename_i Ω4
     intro b H4 G4 ι4 x4 w4 hb
     cases (show b=true from hb)
     rw [if_pos rfl]
     refine he G4 ι4 Ω4 H4 σ3 ρ3 _ w4 (r3.ext x4) ?_
     revert h'
     generalize e ρ3 Ω4=q3
     intro h'
     split at h'
     ·rename_i z Ω5
      intro v H5 G5 ι5 x5 w5 d5
      split at h'
      ·rename_i ys ey
       split at h'
       ·rename_i hl
        have eD:=(((e'.trans e2).trans x3).trans x4).trans x5
        have hk:=eD.pre _ _ hDk
        obtain ⟨gg,xs,q1,q2⟩:=w5.cel _ _ D ey hk
        refine ⟨xs,q1,by rw [q2.length];exact hl,G5,ι5,_,ρ3,eD,w5.put (c := .lst (ys ++ [z])) hk gg ⟨gg,_,zaG,q2.append (.cons d5 .nil)⟩,(r3.ext x4).ext x5,h'⟩
       ·cases h'
      ·cases h'
     ·cases h'
    ·rename_i Ω4
     intro b H4 G4 ι4 x4 w4 hb
     cases (show b=false from hb)
     rw [if_neg (by simp)]
     exact ⟨G4,ι4,Ω4,ρ3,((e'.trans e2).trans x3).trans x4,w4,r3.ext x4,h'⟩
    ·cases h'
   ·cases h'
 ·have hie:i=S.ds.length:=by omega
  subst hie
  left
  refine ⟨j1.stop G' ι' Ω' H' eJ w' hok _ (Nat.le_refl _),?_⟩
  rw [List.drop_length] at h'
  unfold fLC at h'
  rw [if_pos hok] at h'
  cases h'
  split at h1
  ·rename_i ys ey
   have hk:=e'.pre _ _ hDk
   obtain ⟨gg,xs,q1,q2⟩:=w'.cel _ _ D ey hk
   split at h1
   ·exact h1 _ H' G' ι' eJ w' (by simp only [Den];exact ⟨D,rfl,hk⟩)
   ·have wf:=w'.freeze hk gg q1
    split at h1
    ·rename_i hcut
     have eC:Ext G1 ι1 (upd G' D (.lst xs)) ι':=eJ.trans (Ext.new gg _)
     have wc:=w1.cut wf eC (by rw [List.take_set_of_le (Nat.le_refl _)];exact hcut.1)
     refine h1 _ H' _ ι1 ⟨eC.same,fun _ _ q=>q⟩ wc ?_
     simp only [Den]
     exact ⟨D,xs,rfl,zaG,(q2.ext (Ext.new gg _)).cut eC.cut (by rw [w1.len];exact hcut.2)⟩
    ·refine h1 _ H' _ ι' (eJ.trans (Ext.new gg _)) wf ?_
     simp only [Den]
     exact ⟨D,xs,rfl,zaG,q2.ext (Ext.new gg _)⟩
  ·exact False.elim h1
end
def tCan {α β:Type} (K:PySem.W.Frag) (rel:Rl α β) (W:WX) (f:Ev→Mo α):L2.St→Hp→(β→Hp→Prop)→Prop:=fun σ H Q=>∃ G ι Ω ρ,Wd K G ι Ω H∧EnvR K G ι σ ρ∧Post K rel W G ι σ Q (f ρ Ω)
def zoX (K:PySem.W.Frag) (W:WX) (g:A→MS):TG:=fun v σ H Q=>∃ G ι Ω ρ a D,Wd K G ι Ω H∧EnvR K G ι σ ρ∧Den K G ι v a∧zb9 K W G ι D (g a ρ Ω)∧D.nx=Q
theorem zkq {α β:Type} {K:PySem.W.Frag} {rel:Rl α β} {W:WX} {f:Ev→Mo α}:Sim K rel W (tCan K rel W f) f:=fun G ι Ω H σ ρ Q w r h=>⟨G,ι,Ω,ρ,w,r,h⟩
theorem zlv {K:PySem.W.Frag} {W:WX} {g:A→MS}:SimG K W (zoX K W g) g:=fun G ι Ω H σ ρ v a D w r d h=>⟨G,ι,Ω,ρ,a,D,w,r,d,h,rfl⟩
theorem VE.can {X:Cx} {W:WX} {e:Expr} {f:Ev→Mo A} (h:VE X W e f):PE X e (tCan X.K (Den X.K) W f):=by
 obtain ⟨t,p,s⟩:=h
 exact fun pins sh σ H Q I ⟨G,ι,Ω,ρ,w,r,q⟩=>p pins sh σ H Q I (s G ι Ω H σ ρ Q w r q)
theorem VIf.can {X:Cx} {W:WX} {ifs:List Expr} {f:Ev→Mo Bool} (h:VIf X W ifs f):PIf X ifs (tCan X.K relB W f):=by
 obtain ⟨t,p,s⟩:=h
 exact fun pins sh σ H Q I ⟨G,ι,Ω,ρ,w,r,q⟩=>p pins sh σ H Q I (s G ι Ω H σ ρ Q w r q)
theorem VG.can {X:Cx} {W:WX} {tg:Expr} {g:A→MS} (h:VG X W tg g):PG X tg (zoX X.K W g):=by
 obtain ⟨t,p,s⟩:=h
 exact fun pins sh σ H v u Q I rv ⟨G,ι,Ω,ρ,a,D,w,r,d,q,e⟩=>p pins sh σ H v u Q I rv (e ▸ s G ι Ω H σ ρ v a D w r d q)
abbrev noW:WX:=fun _ _ _ _=>False
theorem zjv {X:Cx} {W:WX} {elt tg iter:Expr} {ifs:List Expr} {scope:Scope} {pos:Pos} {fi:Ev→Mo Src} {g:A→MS} {c:Ev→Mo Bool} {e:Ev→Mo A} (cf:Bool) (ls:List Str) (js:List Nat) (hc:X.calm=true) (L:LcOk X scope ls js) (hi:VI X W tg iter fi)
  (hb:∀ cl C s H fp,VG (lcCx X scope ls js cl C s H fp) noW tg g∧VIf (lcCx X scope ls js cl C s H fp) noW ifs c∧VE (lcCx X scope ls js cl C s H fp) noW elt e)
  (hs:∀ x,foldedSetIterable iter X.env x=pure x:=by intro _;rfl):VE X W (.ListComp elt [⟨tg,iter,ifs,0⟩] scope pos) (vLC cf ls.length js fi g c e):=by
 obtain ⟨t1,p1,s1⟩:=hi
 exact ⟨_,zqo hc L p1 (fun cl C s H fp=>⟨(hb cl C s H fp).1.can,(hb cl C s H fp).2.1.can,(hb cl C s H fp).2.2.can⟩) hs,zpk _ s1 zlv zkq zkq⟩
end V2
namespace V2
open PySem PySem.Spec PyProof.Rows L2
section
variable {X:Cx} {W:WX}
end
end V2
namespace M
open PySem V2
noncomputable def zf8:MS :=
 (sSeq (sAsg (vOp (gMod) (vOp (gMul) (vOp (gAdd false) (vVar 0) (cI 1)) (vOp (gAdd false) (cI 48271) (vOp (gMul) (cI 118) (vVar 1)))) (cI 2147483629)) (gN 2))
  (sRet (vOp (gMod) (vOp (gAdd false) (vOp (gAdd false) (vOp (gMul) (vOp (gDiv) (vVar 2) (cI 977)) (cI 16807)) (vOp (gMul) (vVar 2) (vOp (gAdd false) (vOp (gMul) (vVar 1) (vVar 1)) (cI 7)))) (vVar 1)) (cI 2147483587))))
noncomputable def zaH:List A→Mo A:=fnF 3 zf8
noncomputable def zdW:MS :=
 (sSeq (sAsg (cI 0) (gN 2))
  (sSeq (sIf (zaI (vOp gLt (vVar 1) (vCl gLen (zac (vVar 0) a0))))
   (sAsg (vOp (gMod) (vOp gIx (vVar 0) (vVar 1)) (cI 2147483647)) (gN 2))
   sNx)
  (sRet (vCl (zaA 2 zaH) (zac (vVar 2) (zac (vOp (gAdd false) (vVar 1) (cI 101)) a0))))))
noncomputable def za3:List A→Mo A:=fnF 3 zdW
end M
namespace M
open PySem V2
end M
namespace M
open PySem V2
end M
namespace V2
open PySem PySem.Spec PyProof.Rows L2
section
variable {K:PySem.W.Frag} {G:Hp} {ι:List Addr}
end
section
variable {X:Cx} {W:WX} {o i e:Expr} {pos:Pos} {fo fi fe:Ev→Mo A}
end
end V2
namespace V2
open PySem PySem.Spec PyProof.Rows L2
section
variable {X:Cx} {W:WX} {x:Str} {e:Expr} {es:List Expr} {np cpos pos:Pos} {fs:Ev→Mo (List A)}
end
def VS0 (X:Cx) (W:WX) (st:Stmt) (f:MS):Prop:=∃ t,PS0 X st t∧SimS X.K W t f
def VSs0 (X:Cx) (W:WX) (st:List Stmt) (f:MS):Prop:=∃ t,PSs0 X st t∧SimS X.K W t f
section
variable {X:Cx} {W:WX} {st:Stmt} {rest:List Stmt} {f g:MS}
theorem VS.v0 (h:VS X W st f):VS0 X W st f:=let ⟨t,p,s⟩:=h; ⟨t,p.ps0,s⟩
theorem VSs.v0 (h:VSs X W rest f):VSs0 X W rest f:=let ⟨t,p,s⟩:=h; ⟨t,p.ps0,s⟩
theorem zca (h1:VS0 X W st f) (h2:VSs0 X W rest g):VSs0 X W (st :: rest) (sSeq f g):=by
 obtain ⟨t,p1,s1⟩:=h1
 obtain ⟨u,p2,s2⟩:=h2
 exact ⟨_,zlm p1 p2,zfw s1 s2⟩
end
def zjx (K:PySem.W.Frag) (W:WX) (f:MS):TS:=fun D σ H=>∃ G ι Ω ρ,Wd K G ι Ω H∧EnvR K G ι σ ρ∧zb9 K W G ι D (f ρ Ω)
theorem VSs.can {X:Cx} {W:WX} {st:List Stmt} {f:MS} (h:VSs X W st f):PSs X st (zjx X.K W f):=by
 obtain ⟨t,p,s⟩:=h
 exact fun pins sh σ H D I ⟨G,ι,Ω,ρ,w,r,q⟩=>p pins sh σ H D I (s G ι Ω H σ ρ D w r q)
theorem VSs0.can {X:Cx} {W:WX} {st:List Stmt} {f:MS} (h:VSs0 X W st f):PSs0 X st (zjx X.K W f):=by
 obtain ⟨t,p,s⟩:=h
 exact fun sh σ H D I ⟨G,ι,Ω,ρ,w,r,q⟩=>p sh σ H D I (s G ι Ω H σ ρ D w r q)
def zlC (i:Nat):OS→OS
 | some (.exc _,_,_)=>none
 | some (o,ρ,Ω)=>some (o,ρ.set i none,Ω)
 | none=>none
section
variable {P:Program} {w:World} {K:PySem.W.Frag} {mg:Str→Option Value} {base:Heap}
theorem DefN.of0 {x:Str} {st:Stmt} {N ps:List Str} {k:Nat} {b:MS} (h:HasFn K mg x st) (S:zat N ps (zab st))
  (bind:∀ (kV doc pm:Value) (an:Option Addr) (cdv ct:Value) (us:List Value),us.length=ps.length→bindArgs (PySem.W.fnOf x x (zau st) (zai st) (zab st) .none kV doc pm an cdv ct) ⟨us,[]⟩ = pure (ps.zip us))
  (hbody:∀ (f:Addr) (cdv:Value) (A:Around) (outer:List Env) (s:Shared) (H:Hp) (E:XK),Room k (A.deeper (envOfC x (zab st) s.heap.objs.size f cdv)) →
   VSs0 (cxOf CX0 P w K mg base N x (zab st) f cdv A outer s H E).nox noW (zai st) b):DefN P w K mg base x (k + 1) ps (fnF N.length b):=by
 refine Def.of0 h S bind (fun vs H Q E h=>h.1) fun f cdv A outer s H vs Q E hr hsp=>?_
 obtain ⟨t,p,q⟩:=hbody f cdv A outer s H E hr
 exact ⟨t,p,zgR (E:=fun _ _ _=>False) q hsp⟩
end
end V2
namespace V2
open PySem PySem.Spec PyProof.Rows L2
structure XTab (K:PySem.W.Frag) (rs ns:List Str):Prop where
 xc:∀ n ∈ ns,∀ D,PySem.W.nsIn K mainGlobals n=some (some (.ref D))→XC K D
 sub:∀ n ∈ rs,∀ m ∈ ns,∀ D C,PySem.W.nsIn K mainGlobals n=some (some (.ref D))→PySem.W.nsIn K mainGlobals m=some (some (.ref C))→PySem.W.subIn K (.ref D) (.ref C)=some (n == m || m == ("RankError" : Str))
 ve:∀ n ∈ rs,∀ D,PySem.W.nsIn K mainGlobals n=some (some (.ref D))→PySem.W.subIn K (.ref D) (.type "ValueError")=some true
 rn:∀ n ∈ rs,n ∈ ns
def xtab (rs ns:List Str) (n m:Str):Option Bool:=if n ∈ rs∧m ∈ ns then some (n == m || m == ("RankError" : Str)) else none
def xtt (rs:List Str) (n:Str) (T:String):Option Bool:=if n ∈ rs∧T = "ValueError" then some true else none
theorem XTab.own {K:PySem.W.Frag} {rs ns:List Str} (T:XTab K rs ns) (n m:Str) (b:Bool) (D C:Addr) (h:xtab rs ns n m=some b) (hn:PySem.W.nsIn K mainGlobals n=some (some (.ref D))) (hm:PySem.W.nsIn K mainGlobals m=some (some (.ref C))):PySem.W.kitOne K (.ref D) (.ref C)=some b:=by
 unfold xtab at h
 split at h
 ·rename_i q
  cases h
  exact zmZ (T.xc _ (T.rn _ q.1) _ hn) (T.xc _ q.2 _ hm) (T.sub _ q.1 _ q.2 _ _ hn hm)
 ·cases h
theorem XTab.bt {K:PySem.W.Frag} {rs ns:List Str} (T:XTab K rs ns) (n:Str) (Y:String) (b:Bool) (D:Addr) (h:xtt rs n Y=some b) (hn:PySem.W.nsIn K mainGlobals n=some (some (.ref D))):PySem.W.kitOne K (.ref D) (.type Y)=some b:=by
 unfold xtt at h
 split at h
 ·rename_i q
  cases h
  obtain ⟨q,rfl⟩:=q
  exact zlZ (T.ve _ q _ hn) zjA
 ·cases h
def anyN (tb:Str→Option Bool):List Str→Option Bool
 | []=>some false
 | m :: r=>match tb m with
  | some true=>some true
  | some false=>anyN tb r
  | none=>none
def glOf:A→Option Str
 | .gl m=>some m
 | _=>none
def zjX:List A→Option (List Str)
 | []=>some []
 | a :: r=>(glOf a).bind fun m=>(zjX r).map fun ms=>m :: ms
def isA (tb:Str→Option Bool) (tt:String→Option Bool):A→Option Bool
 | .gl m=>tb m
 | .ty T=>tt T
 | .tup as=>(zjX as).bind (anyN tb)
 | _=>none
@[simp] def gIsX (p:Addr) (tb:Str→Option Bool) (tt:String→Option Bool) (as:List A):Mo A:=fun Ω=>match as with
 | [.adr q,a]=>if q=p∧tt "ValueError" = some true then (match isA tb tt a with
  | some b=>some (.ok (.bl b),Ω)
  | none=>none) else none
 | _=>none
section
variable {K:PySem.W.Frag} {rs ns:List Str} {G:Hp} {ι:List Addr}
theorem zlK:∀ {as:List A} {ms:List Str} {xs:List V},zjX as=some ms→DenL K G ι xs as→∃ cs:List Addr,xs=cs.map V.ref∧ms.map (fun m=>PySem.W.nsIn K mainGlobals m)=cs.map fun C=>some (some (.ref C)):=by
 intro as
 induction as with
 | nil =>
  intro ms xs h d
  cases h
  simp only [DenL] at d;subst d
  exact ⟨[],rfl,rfl⟩
 | cons a r ih =>
  intro ms xs h d
  simp only [DenL] at d
  obtain ⟨x,xr,rfl,d1,d2⟩:=d
  unfold zjX at h
  rw [Option.bind_eq_some_iff] at h
  obtain ⟨m,e1,h⟩:=h
  rw [Option.map_eq_some_iff] at h
  obtain ⟨ms',e2,rfl⟩:=h
  obtain ⟨cs,rfl,q⟩:=ih e2 d2
  cases a with
  | gl y =>
   simp only [glOf,Option.some.injEq] at e1;subst e1
   simp only [Den] at d1
   obtain ⟨C,hC,rfl⟩:=d1
   exact ⟨C :: cs,rfl,by rw [List.map_cons,List.map_cons,hC,q]⟩
  | _=>cases e1
theorem zn4 (hT:XTab K rs ns) {n:Str} {D:Addr} (hn:PySem.W.nsIn K mainGlobals n=some (some (.ref D))):∀ {ms:List Str} {cs:List Addr} {b:Bool},ms.map (fun m=>PySem.W.nsIn K mainGlobals m)=cs.map (fun C=>some (some (.ref C)))→anyN (xtab rs ns n) ms=some b→PySem.W.kitAny K (.ref D) (cs.map Value.ref)=some b:=by
 intro ms
 induction ms with
 | nil =>
  intro cs b e h
  cases cs with
  | nil=>exact h
  | cons=>cases e
 | cons m r ih =>
  intro cs b e h
  cases cs with
  | nil=>cases e
  | cons C cs =>
   simp only [List.map_cons,List.cons.injEq] at e
   unfold anyN at h
   split at h
   ·rename_i q
    cases h
    simp only [List.map_cons,PySem.W.kitAny,hT.own _ _ _ _ _ q hn e.1]
   ·rename_i q
    simp only [List.map_cons,PySem.W.kitAny,hT.own _ _ _ _ _ q hn e.1]
    exact ih e.2 h
   ·cases h
end
theorem zqI {X:Cx} {W:WX} {rs ns:List Str} {p:Addr} {oe:Obj} {n:Str} (hp:(p,oe) ∈ X.pn) (hT:XTab X.K rs ns) (he:∃ E,PySem.W.nsIn X.K mainGlobals n=some (some (.ref E))∧oe.cls = .ref E):zcD X W (.builtin "isinstance") (gIsX p (xtab rs ns n) (xtt rs n)):=by
 refine ⟨_,zlQ hp,?_⟩
 intro G ι Ω H σ xs as Q w d h
 obtain ⟨E,hE,hc⟩:=he
 unfold gIsX at h
 split at h
 ·rename_i q a
  split at h
  ·rename_i hq
   obtain ⟨rfl,hv⟩:=hq
   split at h
   ·rename_i b e
    obtain ⟨x,y,rfl,d1,d2⟩:=den2 d
    simp only [Den] at d1;subst d1
    have hr:n ∈ rs:=by
     unfold xtt at hv
     split at hv
     ·rename_i z;exact z.1
     ·cases hv
    refine ⟨E,hc,hT.xc _ (hT.rn _ hr) _ hE,?_⟩
    have fin:Q (.bl b) H:=h _ H G ι (Ext.refl _ _) w (by simp only [Den])
    rw [hc]
    cases a with
    | gl m =>
     simp only [Den] at d2
     obtain ⟨C,hC,rfl⟩:=d2
     exact .inl ⟨C,b,rfl,hT.own _ _ _ _ _ e hE hC,fin⟩
    | ty T =>
     simp only [Den] at d2;subst d2
     exact .inr (.inl ⟨T,b,rfl,hT.bt _ _ _ _ e hE,fin⟩)
    | tup as =>
     simp only [Den] at d2
     obtain ⟨a,ys,rfl,hG,dl⟩:=d2
     unfold isA at e
     rw [Option.bind_eq_some_iff] at e
     obtain ⟨ms,e1,e2⟩:=e
     obtain ⟨cs,rfl,q⟩:=zlK e1 dl
     exact .inr (.inr ⟨a,cs,b,rfl,w.sub _ _ hG,zn4 hT hE q e2,fin⟩)
    | _=>cases e
   ·exact False.elim h
  ·exact False.elim h
 ·exact False.elim h
end V2
namespace V2
open PySem PySem.Spec PyProof.Rows L2
end V2
namespace V2
open PySem PySem.Spec PyProof.Rows L2
def ClsN (K:PySem.W.Frag) (mg:Str→Option Value) (x:Str):Prop:=∃ C,XC K C∧mg x=some (.ref C)∧PySem.W.nsIn K mainGlobals x=some (some (.ref C))
section
variable {X:Cx} {W:WX} {x y:Str} {e:Expr} {es:List Expr} {np cpos pos hpos:Pos} {fs:Ev→Mo (List A)}
@[simp] def cG (x:Str):Ev→Mo A:=fun _=>ret (.gl x)
theorem zeM (h:ClsN X.K X.mg x) (hg:Gl X x) (hd:(x == ("__debug__" : Str))=false:=by decide):VE X W (.Name x pos) (cG x):=by
 obtain ⟨C,_,h1,h2⟩:=h
 exact znv hg h1 h2 hd
end
theorem zhS {α:Type} {P:α→Prop}:∀ n ∈ ([] : List α),P n:=by simp
theorem zaV {α:Type} {P:α→Prop} {a:α} {l:List α} (h:P a) (t:∀ n ∈ l,P n):∀ n ∈ a :: l,P n:=fun n hn=>by
 rcases List.mem_cons.mp hn with z | z
 ·exact z ▸ h
 ·exact t n z
theorem zdD {K:PySem.W.Frag} {n:Str} {C:Addr} {P:Addr→Prop} (h:PySem.W.nsIn K mainGlobals n=some (some (.ref C))) (p:P C):∀ D,PySem.W.nsIn K mainGlobals n=some (some (.ref D))→P D:=fun D hD=>by
 rw [h] at hD;cases hD;exact p
theorem zd6 {K:PySem.W.Frag} {n m:Str} {C C':Addr} {P:Addr→Addr→Prop} (h:PySem.W.nsIn K mainGlobals n=some (some (.ref C))) (h':PySem.W.nsIn K mainGlobals m=some (some (.ref C'))) (p:P C C'):∀ D D',PySem.W.nsIn K mainGlobals n=some (some (.ref D))→PySem.W.nsIn K mainGlobals m=some (some (.ref D'))→P D D':=fun D D' hD hD'=>by
 rw [h] at hD;rw [h'] at hD';cases hD;cases hD';exact p
theorem DefV.ofN {P:Program} {w:World} {K:PySem.W.Frag} {mg:Str→Option Value} {base:Heap} {x:Str} {k:Nat} {ps:List Str} {F:List A→Mo A} (D:DefN P w K mg base x k ps F):DefV P w K mg base x k ps (noX F):=by
 obtain ⟨f,fd,h1,h2,h3,h4⟩:=D.ex
 refine ⟨f,fd,⟨fun vs H Q E h=>h.1,fun A outer s H args us vs Q E hr e0 hb r hsp=>?_⟩,h2,h3,h4⟩
 refine codeAny_mono (h1.run A outer s H args us vs Q (fun _ _ _=>False) hr e0 hb r ?_) fun r s' hq=>?_
 ·obtain ⟨hl,G,ι,Ω,ds,w,d,p⟩:=hsp
  refine ⟨hl,G,ι,Ω,ds,w,d,?_⟩
  revert p
  unfold noX
  generalize F ds Ω=q2
  intro p
  match q2,p with
  | some (.ok a,Ω2),p=>exact p
 ·cases r with
  | error ev=>exact False.elim hq
  | ok v=>cases v <;> exact hq
end V2
namespace L2
open PySem PySem.Spec PyProof.Rows
end L2
namespace V2
theorem zff:PySem.bootBuiltins "ValueError" = some (.type "ValueError"):=by decide +kernel
end V2
namespace L2
open PySem PySem.Spec PyProof.Rows
theorem Top1.nox {X:Cx} (t:Top1 X):Top1 X.nox:=⟨t.1,t.2,t.3⟩
theorem zjT {CX:CXT} {P:Program} {w:World} {K:PySem.W.Frag} {mg:Str→Option Value} {base:Heap} {N:List Str} {qual:Str} {scope:Scope} {f:Addr} {cd:Value} {A:Around} {outer:List Env} {s:Shared} {H:Hp} {E:XK}:Top1 (cxOf CX P w K mg base N qual scope f cd A outer s H E).nox:=Top1.nox zeX
theorem zhe {CX:CXT} {P:Program} {w:World} {K:PySem.W.Frag} {mg:Str→Option Value} {base:Heap} {N:List Str} {qual:Str} {scope:Scope} {f:Addr} {cd:Value} {A:Around} {outer:List Env} {s:Shared} {H:Hp} {E:XK} {W:WX} :
  zfT ((cxOf CX P w K mg base N qual scope f cd A outer s H E).nox.wish (XE (cxOf CX P w K mg base N qual scope f cd A outer s H E).nox W)) W:=zfT.of zjT rfl W
end L2
namespace M
open PySem V2
end M
namespace KS
open PySem PySem.W PyProof.Rows
def go {α:Type} (lt:Nat→Nat→Bool):KasT α→α
 | .ret a=>a
 | .ask i j k=>go lt (k (lt i j))
theorem zfp {α β:Type} (lt:Nat→Nat→Bool) (f:α→KasT β):∀ t:KasT α,go lt (t.bind f)=go lt (f (go lt t))
 | .ret _=>rfl
 | .ask i j k=>by
  show go lt ((k (lt i j)).bind f)=_
  rw [zfp lt f (k (lt i j))];rfl
section
variable (r:Nat→Int)
abbrev ltR:Nat→Nat→Bool:=fun i j=>decide (r i < r j)
def Ky (p:Array Nat) (i:Nat):Int:=r (p.getD i 0)
def Up (p:Array Nat) (k:Nat):Prop:=∀ i j,i ≤ j→j < k→Ky r p i ≤ Ky r p j
def Dn (p:Array Nat) (k:Nat):Prop:=∀ i j,i ≤ j→j < k→Ky r p j ≤ Ky r p i
variable {r}
theorem getD_eq {p q:Array Nat} {i j:Nat} (h:p[i]? = q[j]?):p.getD i 0=q.getD j 0:=by
 simp [Array.getD_eq_getD_getElem?,h]
theorem zhT {p q:Array Nat} {i j:Nat} (h:Ky r p i < Ky r q j):ltR r (p.getD i 0) (q.getD j 0)=true:=decide_eq_true h
theorem zkN {p q:Array Nat} {i j:Nat} (h:¬ Ky r p i < Ky r q j):ltR r (p.getD i 0) (q.getD j 0)=false:=decide_eq_false h
theorem zkQ {p:Array Nat} {i j:Nat} (hj:j ≤ p.size) (k:Nat):Ky r (kas_rev p i j) k=if i ≤ k∧k < j then Ky r p (i + j - 1 - k) else Ky r p k:=by
 have h:=getElem?_mirror_all (i:=i) hj k
 unfold Ky kas_rev
 split
 ·rename_i c;rw [if_pos c] at h;rw [getD_eq h]
 ·rename_i c;rw [if_neg c] at h;rw [getD_eq h]
theorem zfl {p:Array Nat} {i j:Nat} (hj:j ≤ p.size) (e:∀ k,i ≤ k→k < j→Ky r p k=Ky r p (j - 1)) (k:Nat):Ky r (kas_rev p i j) k=Ky r p k:=by
 rw [zkQ hj]
 split
 ·rename_i c;rw [e _ (by omega) (by omega),e k c.1 c.2]
 ·rfl
theorem zc4 (p:Array Nat) (i j:Nat):(kas_rev p i j).size=p.size:=mirror_size _ _ _ _
theorem zeY (p:Array Nat) (i j:Nat):(kas_rev p i j).Perm p:=mirror_perm _ _ _ _
theorem zm0 {p:Array Nat} {n:Nat} (h1:1 ≤ n) (h:Up r p n) (hn:Ky r p (n - 1) ≤ Ky r p n):Up r p (n + 1):=by
 intro i j hij hj
 by_cases e:j=n
 ·subst e
  by_cases e2:i=j
  ·subst e2;exact Int.le_refl _
  ·exact Int.le_trans (h i (j - 1) (by omega) (by omega)) hn
 ·exact h i j hij (by omega)
theorem zgQ {p:Array Nat} {n:Nat} (h1:1 ≤ n) (h:Dn r p n) (hn:Ky r p n ≤ Ky r p (n - 1)):Dn r p (n + 1):=by
 intro i j hij hj
 by_cases e:j=n
 ·subst e
  by_cases e2:i=j
  ·subst e2;exact Int.le_refl _
  ·exact Int.le_trans hn (h i (j - 1) (by omega) (by omega))
 ·exact h i j hij (by omega)
theorem asc {p:Array Nat}:∀ (f n:Nat),1 ≤ n→Up r p n→∃ m,go (ltR r) (kas_asc p f n)=m∧n ≤ m∧m ≤ n + f∧Up r p m∧(m < n + f→Ky r p m < Ky r p (m - 1))
 | 0,n,_,h=>⟨n,rfl,Nat.le_refl _,Nat.le_refl _,h,fun z=>by omega⟩
 | f + 1,n,h1,h=>by
  by_cases c:Ky r p n < Ky r p (n - 1)
  ·refine ⟨n,?_,Nat.le_refl _,by omega,h,fun _=>c⟩
   have c':=zhT c
   simp only [kas_asc,go,c',if_true]
  ·obtain ⟨m,e,a,b,u,l⟩:=asc f (n + 1) (by omega) (zm0 h1 h (by omega))
   refine ⟨m,?_,by omega,by omega,u,fun z=>l (by omega)⟩
   rw [← e]
   have c':=zkN c
   simp only [kas_asc,go,c',Bool.false_eq_true,if_false]
theorem desc:∀ (f:Nat) (p:Array Nat) (n q:Nat),q + 1 ≤ n→n + f ≤ p.size→Dn r p n→(∀ k,n - (q + 1) ≤ k→k < n→Ky r p k=Ky r p (n - 1)) →
  ∃ p' m q',go (ltR r) (kas_desc f p n q)=(p',m,q')∧n ≤ m∧m ≤ n + f∧q' + 1 ≤ m∧p'.size=p.size∧p'.Perm p∧(∀ k,Ky r p' k=Ky r p k)∧Dn r p' m∧(∀ k,m - (q' + 1) ≤ k→k < m→Ky r p' k=Ky r p' (m - 1))
 | 0,p,n,q,hq,_,hd,he=>⟨p,n,q,rfl,Nat.le_refl _,Nat.le_refl _,hq,rfl, .refl _,fun _=>rfl,hd,he⟩
 | f + 1,p,n,q,hq,hz,hd,he=>by
  by_cases c:Ky r p n < Ky r p (n - 1)
  ·have c':=zhT c
   have hd1:Dn r p (n + 1):=zgQ (by omega) hd (by omega)
   by_cases q0:q > 0
   ·have ek:∀ k,Ky r (kas_rev p (n - (q + 1)) n) k=Ky r p k:=zfl (by omega) he
    have hd2:Dn r (kas_rev p (n - (q + 1)) n) (n + 1):=fun i j a b=>by rw [ek,ek];exact hd1 i j a b
    obtain ⟨p',m,q',e,a1,a2,a3,a4,a5,a6,a7,a8⟩:=desc f (kas_rev p (n - (q + 1)) n) (n + 1) 0 (by omega) (by rw [zc4];omega) hd2 (fun k k1 k2=>by
     have:k=n + 1 - 1:=by omega
     rw [this])
    refine ⟨p',m,q',?_,by omega,by omega,a3,by rw [a4,zc4],a5.trans (zeY _ _ _),fun k=>by rw [a6,ek],a7,a8⟩
    rw [← e]
    simp only [kas_desc,go,c',if_true,q0]
   ·obtain ⟨p',m,q',e,a1,a2,a3,a4,a5,a6,a7,a8⟩:=desc f p (n + 1) 0 (by omega) (by omega) hd1 (fun k k1 k2=>by
     have:k=n + 1 - 1:=by omega
     rw [this])
    refine ⟨p',m,q',?_,by omega,by omega,a3,a4,a5,a6,a7,a8⟩
    rw [← e]
    simp only [kas_desc,go,c',if_true,q0,if_false]
  ·have c':=zkN c
   by_cases d:Ky r p (n - 1) < Ky r p n
   ·have d':=zhT d
    refine ⟨p,n,q,?_,Nat.le_refl _,by omega,hq,rfl, .refl _,fun _=>rfl,hd,he⟩
    simp only [kas_desc,go,c',d',Bool.false_eq_true,if_true,if_false]
   ·have d':=zkN d
    have eq:Ky r p n=Ky r p (n - 1):=by omega
    obtain ⟨p',m,q',e,a1,a2,a3,a4,a5,a6,a7,a8⟩:=desc f p (n + 1) (q + 1) (by omega) (by omega) (zgQ (by omega) hd (by omega)) (fun k k1 k2=>by
     rw [show n + 1 - 1=n by omega]
     by_cases z:k=n
     ·rw [z]
     ·rw [he k (by omega) (by omega),eq])
    refine ⟨p',m,q',?_,by omega,by omega,a3,a4,a5,a6,a7,a8⟩
    rw [← e]
    simp only [kas_desc,go,c',d',Bool.false_eq_true,if_false]
theorem zkB {p:Array Nat} {n:Nat} (hn:n ≤ p.size) (h:Dn r p n):Up r (kas_rev p 0 n) n:=by
 intro i j hij hj
 rw [zkQ hn,zkQ hn,if_pos ⟨by omega,by omega⟩,if_pos ⟨by omega,hj⟩]
 exact h _ _ (by omega) (by omega)
theorem tail3 {p:Array Nat} {n nrem:Nat} (h1:1 ≤ n) (hn:n ≤ nrem) (hz:nrem ≤ p.size) (h:Dn r p n):∃ m p',go (ltR r) (kas_tail3 n nrem p)=(m,p')∧1 ≤ m∧m ≤ nrem∧p'.size=p.size∧p'.Perm p∧Up r p' m:=by
 obtain ⟨m,e,a,b,u,_⟩:=asc (r:=r) (nrem - n) n h1 (zkB (by omega) h)
 refine ⟨m,kas_rev p 0 n,?_,by omega,by omega,zc4 _ _ _,zeY _ _ _,u⟩
 unfold kas_tail3
 rw [zfp,e];rfl
theorem descPart {p:Array Nat} {n nrem:Nat} (h1:1 ≤ n) (hn:n + 1 ≤ nrem) (hz:nrem ≤ p.size) (h:Dn r p (n + 1)):∃ m p',go (ltR r) (kas_descPart n nrem p)=(m,p')∧1 ≤ m∧m ≤ nrem∧p'.size=p.size∧p'.Perm p∧Up r p' m:=by
 obtain ⟨p1,m1,q1,e,a1,a2,a3,a4,a5,a6,a7,a8⟩:=desc (r:=r) (nrem - (n + 1)) p (n + 1) 0 (by omega) (by omega) h (fun k k1 k2=>by
  have:k=n + 1 - 1:=by omega
  rw [this])
 by_cases q0:q1 > 0
 ·have ek:∀ k,Ky r (kas_rev p1 (m1 - (q1 + 1)) m1) k=Ky r p1 k:=zfl (by omega) a8
  obtain ⟨m,p',e2,b1,b2,b3,b4,b5⟩:=tail3 (p:=kas_rev p1 (m1 - (q1 + 1)) m1) (n:=m1) (nrem:=nrem) (r:=r) (by omega) (by omega) (by rw [zc4];omega) (fun i j x y=>by rw [ek,ek];exact a7 i j x y)
  refine ⟨m,p',?_,b1,b2,by rw [b3,zc4,a4],b4.trans ((zeY _ _ _).trans a5),b5⟩
  unfold kas_descPart
  rw [zfp,e]
  simp only [q0,if_true]
  exact e2
 ·obtain ⟨m,p',e2,b1,b2,b3,b4,b5⟩:=tail3 (p:=p1) (n:=m1) (nrem:=nrem) (r:=r) (by omega) (by omega) (by omega) a7
  refine ⟨m,p',?_,b1,b2,by rw [b3,a4],b4.trans a5,b5⟩
  unfold kas_descPart
  rw [zfp,e]
  simp only [q0,if_false]
  exact e2
theorem count {p:Array Nat} {nrem:Nat} (h1:1 ≤ nrem) (hz:nrem ≤ p.size):∃ m p',go (ltR r) (kas_count nrem p)=(m,p')∧1 ≤ m∧m ≤ nrem∧p'.size=p.size∧p'.Perm p∧Up r p' m:=by
 obtain ⟨n,e,a,b,u,l⟩:=asc (r:=r) (p:=p) (nrem - 1) 1 (Nat.le_refl _) (fun i j x y=>by
  have:i=j:=by omega
  rw [this];exact Int.le_refl _)
 unfold kas_count
 rw [zfp,e]
 by_cases c1:n=nrem
 ·subst c1
  refine ⟨n,p,by simp [go],a,Nat.le_refl _,rfl, .refl _,u⟩
 ·have c1':(n == nrem)=false:=by simpa using c1
  have lt:=l (by omega)
  simp only [c1',Bool.false_eq_true,if_false]
  by_cases c2:n > 1
  ·simp only [c2,if_true,go]
   by_cases c3:Ky r p 0 < Ky r p (n - 1)
   ·have c3':=zhT c3
    simp only [c3',if_true,go]
    exact ⟨n,p,rfl,a,by omega,rfl, .refl _,u⟩
   ·have c3':=zkN c3
    simp only [c3',Bool.false_eq_true,if_false]
    have eqs:∀ k,k < n→Ky r p k=Ky r p (n - 1):=fun k hk=>by
     have x:=u 0 k (by omega) hk
     have y:=u k (n - 1) (by omega) (by omega)
     omega
    have ek:∀ k,Ky r (kas_rev p 0 n) k=Ky r p k:=zfl (by omega) fun k _ hk=>eqs k hk
    obtain ⟨m,p',e2,b1,b2,b3,b4,b5⟩:=descPart (r:=r) (p:=kas_rev p 0 n) (n:=n) (nrem:=nrem) (by omega) (by omega) (by rw [zc4];omega) (zgQ (by omega) (fun i j x y=>by rw [ek,ek,eqs i (by omega),eqs j y];exact Int.le_refl _) (by rw [ek,ek];omega))
    exact ⟨m,p',e2,b1,b2,by rw [b3,zc4],b4.trans (zeY _ _ _),b5⟩
  ·simp only [c2,if_false]
   have n1:n=1:=by omega
   subst n1
   exact descPart (Nat.le_refl _) (by omega) hz (zgQ (Nat.le_refl _) (fun i j x y=>by
    have:i=j:=by omega
    rw [this];exact Int.le_refl _) (by omega))
theorem place {p:Array Nat} {k:Nat} (hu:Up r p k):∀ (f l t:Nat),l ≤ t→t ≤ k→t - l ≤ f→(∀ i,i < l→Ky r p i ≤ Ky r p k)→(∀ i,t ≤ i→i < k→Ky r p k < Ky r p i) →
  ∃ m,go (ltR r) (kas_place p k f l t)=m∧m ≤ k∧(∀ i,i < m→Ky r p i ≤ Ky r p k)∧(∀ i,m ≤ i→i < k→Ky r p k < Ky r p i)
 | 0,l,t,h1,h2,h3,h4,h5=>⟨l,rfl,by omega,h4,fun i a b=>h5 i (by omega) b⟩
 | f + 1,l,t,h1,h2,h3,h4,h5=>by
  by_cases c:l ≥ t
  ·exact ⟨l,by simp only [kas_place,c,if_true,go],by omega,h4,fun i a b=>h5 i (by omega) b⟩
  ·by_cases d:Ky r p k < Ky r p ((l + t) / 2)
   ·have d':=zhT d
    obtain ⟨m,e,a1,a2,a3⟩:=place hu f l ((l + t) / 2) (by omega) (by omega) (by omega) h4 (fun i a b=>by
     have:=hu ((l + t) / 2) i a b
     omega)
    refine ⟨m,?_,a1,a2,a3⟩
    rw [← e]
    simp only [kas_place,c,if_false,go,d',if_true]
   ·have d':=zkN d
    obtain ⟨m,e,a1,a2,a3⟩:=place hu f ((l + t) / 2 + 1) t (by omega) h2 (by omega) (fun i a=>by
     have:=hu i ((l + t) / 2) (by omega) (by omega)
     omega) h5
    refine ⟨m,?_,a1,a2,a3⟩
    rw [← e]
    simp only [kas_place,c,if_false,go,d',Bool.false_eq_true]
end
end KS
namespace KS
open PySem PySem.W PyProof.Rows
def reach {α:Type} (lt:Nat→Nat→Bool) (N:Nat):KasT α→Prop
 | .ret _=>True
 | .ask i j k=>i < N∧j < N∧reach lt N (k (lt i j))
def Bd (N:Nat) (p:Array Nat):Prop:=0 < N∧∀ x ∈ p,x < N
section
variable {lt:Nat→Nat→Bool} {N:Nat}
theorem Bd.get {p:Array Nat} (h:Bd N p) (i:Nat):p.getD i 0 < N:=by
 rw [Array.getD_eq_getD_getElem?]
 cases e:p[i]? with
 | none=>exact h.1
 | some x=>exact h.2 x (Array.mem_of_getElem? e)
end
end KS
namespace KS
open PySem PySem.W PyProof.Rows
def lexB:List Int→List Int→Bool
 | [],[]=>false
 | [],_ :: _=>true
 | _ :: _,[]=>false
 | a :: as,b :: bs=>if a=b then lexB as bs else decide (a < b)
section
variable {prog:Program} {w:World} {A:Around} {E:Value→Shared→Prop} {s:Shared}
end
end KS
namespace KS
open PySem PySem.W PyProof.Rows
def TupAt (h:Heap) (v:Value) (ns:List Int):Prop:=∃ a o xs n,v = .ref a∧h.get? a=some o∧o.cls = .type "tuple"∧o.data = .seq xs n∧IntsAre xs.toList ns
def zdw (h:Heap):List Value→List (List Int)→Prop
 | [],[]=>True
 | v :: vs,t :: ts=>TupAt h v t∧zdw h vs ts
 | _,_=>False
theorem zdw.len {h:Heap}:∀ {vs:List Value} {ts:List (List Int)},zdw h vs ts→vs.length=ts.length
 | [],[],_=>rfl
 | _ :: _,_ :: _,t=>by simp [zdw.len t.2]
 | [],_ :: _,t=>t.elim
 | _ :: _,[],t=>t.elim
theorem zdw.get {h:Heap}:∀ {vs:List Value} {ts:List (List Int)},zdw h vs ts→∀ i,i < ts.length→TupAt h (vs.getD i .none) (ts.getD i [])
 | [],[],_,i,hi=>by simp at hi
 | _ :: _,_ :: _,t,0,_=>t.1
 | _ :: _,_ :: _,t,i + 1,hi=>by simpa using zdw.get t.2 i (by simpa using hi)
 | [],_ :: _,t,_,_=>t.elim
 | _ :: _,[],t,_,_=>t.elim
theorem zdw.keeps {h h':Heap} (k:∀ b o,h.get? b=some o→o.cls = .type "tuple"→h'.get? b=some o):∀ {vs:List Value} {ts:List (List Int)},zdw h vs ts→zdw h' vs ts
 | [],[],_=>trivial
 | _ :: _,_ :: _,⟨⟨a,o,xs,n,h1,h2,h3,h4⟩,t⟩=>⟨⟨a,o,xs,n,h1,k _ _ h2 h3,h3,h4⟩,zdw.keeps k t⟩
 | [],_ :: _,t=>t.elim
 | _ :: _,[],t=>t.elim
section
variable {prog:Program} {w:World} {A:Around} {E:Value→Shared→Prop} {s:Shared}
end
end KS
namespace V2
open PySem PySem.Spec PyProof.Rows L2 KS
def TupV (H:Hp):List V→List (List Int)→Prop
 | [],[]=>True
 | y :: ys,t :: ts=>(∃ b,y = .ref b∧H b=some (.tup (t.map V.int)))∧TupV H ys ts
 | _,_=>False
section
variable {X:Cx} {W:WX}
theorem TupV.len {H:Hp}:∀ {ys:List V} {ts:List (List Int)},TupV H ys ts→ys.length=ts.length
 | [],[],_=>rfl
 | _ :: _,_ :: _,t=>by simp [TupV.len t.2]
 | [],_ :: _,t=>t.elim
 | _ :: _,[],t=>t.elim
end
end V2
namespace V2
open PySem PySem.Spec PyProof.Rows L2
section
variable {X:Cx} {W:WX}
@[simp] def zne (as:List A):Mo A:=match as with
 | [.int i]=>ret (.int i)
 | [.bl b]=>ret (.int (if b then 1 else 0))
 | _=>stuck
theorem zpP:zcD X W (.type "int") zne:=by
 refine ⟨_,zkP,?_⟩
 intro G ι Ω H σ xs as Q w d h
 unfold zne at h
 split at h
 ·rename_i i
  obtain ⟨x,rfl,d1⟩:=den1 d
  simp only [Den] at d1;subst d1
  exact .inl ⟨i,rfl,zax w (by simp only [Den]) h⟩
 ·rename_i b
  obtain ⟨x,rfl,d1⟩:=den1 d
  simp only [Den] at d1;subst d1
  exact .inr ⟨b,rfl,zax w (by simp only [Den]) h⟩
 ·exact False.elim h
end
end V2
namespace M
open PySem V2
end M
namespace V2
open PySem PySem.Spec PyProof PyProof.Rows L2
section
variable {X:Cx} {W:WX} {e a b:Expr} {es:List Expr} {pos:Pos} {fa fb:Ev→Mo A} {te:TE} {tl th tk:TO} {lo hi stp:Option Expr}
end
end V2
namespace L2
open PySem PySem.Spec PyProof.Rows
section
variable {X:Cx}
end
end L2
namespace V2
open PySem PySem.Spec PyProof.Rows L2
end V2
namespace L2
open PySem PySem.Spec PyProof.Rows
def BltB (h:Heap) (mg:Str→Option Value):Prop:=∃ bm o,mg "__builtins__" = some (.ref bm)∧bm ≠ builtinsNs∧h.get? bm=some o∧o.cls = .type "module"∧o.dict=some builtinsNs∧o.data = .plain
end L2
namespace L2
open PySem PySem.Spec PyProof.Rows
structure zq8 (h:Heap) (H:Hp) (f:Addr) (qual:Str) (params:Arguments) (body:Expr) (scope:Scope) (caps:List (Str × Int)):Prop where
 ex:∃ (cl:List (Str × Addr)) (pm ctv:Value) (c':Addr) (oc:Obj) (vs:Array Value) (t:Tok),
  H f=some (.frz (PySem.W.kla_obj "<lambda>" qual params body scope cl pm c' ctv) (.own 0))∧H c'=some (.frz oc (.own 0))∧oc.data = .fields vs∧vs[1]? = some (.str qual t) ∧
  (∀ x y c,cl.lookup x=some c→cl.lookup y=some c→x=y)∧(∀ y ∈ scope.names,y.2 = .free→∃ c,cl.lookup y.1=some c) ∧
  (∀ x c,cl.lookup x=some c→(∃ v,h.IsCell c v)∧H c=none)∧∀ p ∈ caps,∃ c t,cl.lookup p.1=some c∧h.IsCell c (some (.int p.2 t))
structure zmm (scope:Scope) (y:Str) (cs:List Str):Prop where
 kind:scope.kind = .function
 co:scope.isCoroutine=false
 gen:scope.isGenerator=false
 nocell:∀ x ∈ scope.names,x.2 ≠ .cell
 par:scope.names.lookup y=some .local
 cap:∀ x ∈ cs,scope.names.lookup x=some .free
section
variable {P:Program} {w:World} {K:PySem.W.Frag} {mg:Str→Option Value} {base:Heap} {A:Around} {outer:List Env} {s:Shared} {H:Hp}
end
end L2
namespace V2
open PySem PySem.Spec PyProof.Rows L2
section
variable {X:Cx} {W:WX} {e:Expr} {fa:Ev→Mo A} {p pos:Pos}
end
end V2
namespace L2
open PySem PySem.Spec PyProof.Rows
section
variable {X:Cx}
end
end L2
namespace L2
open PySem PySem.Spec PyProof.Rows
end L2
namespace V2
open PySem PySem.Spec PyProof.Rows L2
structure TabF (K:PySem.W.Frag) (mg:Str→Option Value) (base:Heap) (x:Str):Prop where
 kin:K.In base
 glob:base.Ns mainGlobals mg
 blt:BltB base mg
 hd:∃ c P,PySem.W.tabIn K x=some (c,P)∧PySem.W.codeHdIn K c P=true
section
variable {P:Program} {w:World} {K:PySem.W.Frag} {mg:Str→Option Value} {base:Heap}
end
end V2
namespace V2
open PySem PySem.Spec PyProof.Rows L2
section
variable {X:Cx} {W:WX} {e:Expr} {fa:Ev→Mo A} {p pos:Pos}
end
end V2
namespace V2
open PySem PySem.Spec PyProof.Rows L2
structure FwOk (X:Cx) (scope:Scope) (y:Str) (cs:List Str) (js:List Nat):Prop where
 S:zmm scope y cs
 free:∀ y ∈ scope.names,y.2 = .free→X.env.kindOf y.1=some .cell∨X.env.kindOf y.1=some .free
 caps:js.map (fun j=>X.N[j]?)=cs.map some
 cell:∀ x ∈ cs,X.env.scope.names.lookup x=some .cell
def znK (sc:Scope) (N:List Str) (scope:Scope) (y:Str) (cs:List Str) (js:List Nat):Prop :=
 ((scope.kind == .function)=true∧scope.isCoroutine=false∧scope.isGenerator=false)∧(∀ x ∈ scope.names,(x.2 == .cell)=false)∧(scope.names.lookup y == some .local)=true∧(∀ x ∈ cs,(scope.names.lookup x == some .free)=true) ∧
 (∀ y ∈ scope.names,(y.2 == .free)=true→(sc.names.lookup y.1 == some .cell)=true)∧js.map (fun j=>N[j]?)=cs.map some∧∀ x ∈ cs,(sc.names.lookup x == some .cell)=true
instance (sc:Scope) (N:List Str) (scope:Scope) (y:Str) (cs:List Str) (js:List Nat):Decidable (znK sc N scope y cs js):=by unfold znK;infer_instance
theorem FwOk.of {X:Cx} {scope:Scope} {y:Str} {cs:List Str} {js:List Nat} (sc:Scope) (N:List Str) (h1:X.env.scope=sc) (h2:X.N=N) (h:znK sc N scope y cs js):FwOk X scope y cs js:=by
 obtain ⟨⟨a1,a2,a3⟩,a4,a5,a6,a7,a8,a9⟩:=h
 refine ⟨⟨by simpa using a1,a2,a3,fun x hx=>by simpa using a4 x hx,by simpa using a5,fun x hx=>by simpa using a6 x hx⟩,fun y hy hf => .inl ?_,by rw [h2];exact a8,fun x hx=>by rw [h1];simpa using a9 x hx⟩
 have:=a7 y hy (by simp [hf])
 show X.env.scope.names.lookup y.1=some .cell
 rw [h1];simpa using this
@[elab_as_elim] theorem us0 {P:List Value→Prop} (us:List Value) (h:us.length=0) (f:P []):P us:=by cases us with | nil=>exact f | cons _ _=>simp at h
@[elab_as_elim] theorem us1 {P:List Value→Prop} (us:List Value) (h:us.length=1) (f:∀ a,P [a]):P us:=by
 cases us with
 | nil=>simp at h
 | cons a r=>exact us0 r (by simpa using h) (f a)
@[elab_as_elim] theorem us2 {P:List Value→Prop} (us:List Value) (h:us.length=2) (f:∀ a b,P [a,b]):P us:=by
 cases us with
 | nil=>simp at h
 | cons a r=>exact us1 (P:=fun r=>P (a :: r)) r (by simpa using h) (f a)
section
variable {P:Program} {w:World} {K:PySem.W.Frag} {mg:Str→Option Value} {base:Heap}
end
end V2
namespace M
open PySem V2
end M
namespace V2
open PySem PySem.Spec PyProof.Rows L2
section
variable {X:Cx} {W:WX}
end
end V2
namespace M
open PySem V2
end M
namespace L2
open PySem PySem.Spec PyProof.Rows
section
variable {prog:Program} {w:World} {A:Around} {E:Value→Shared→Prop} {h:Heap} {g:Array GenState} {d:Drawn} {t:Nat} {os:OsState}
variable {nm q:Str} {C N:Addr} {bs bm bmB:List Value} {hdct:Bool} {sn:List Str} {sub:List Value} {ab:Bool} {col:Option Bool} {dd:Option Addr} {k0 k1 k2 k3 k5:Option Value} {B newId initId:String}
theorem zhg (F:ExcBaseFacts B newId initId bmB) (T:OwnTail h bmB bm) {mN:Str→Option Value} {rest:List Value} {fI:Addr} {oI:Obj} {Q:Fin→Shared→Prop}
  (hC:h.get? C=some (excClassObj nm q C N bs bm hdct sn sub ab col dd k0 k1 k2 k3 k5 newId)) (hn:h.Ns N mN) (hi:mN "__init__" = some (.ref fI))
  (hfI:h.get? fI=some oI) (hfc:oI.cls = .type "function")
  (hq:∀ h' e,Heap.MadeExcOf h h' e (.ref C) rest→h.objs.size ≤ e →
   wpAny (model prog w) A (call (.ref fI) (.ref e :: rest)) (fun r s'=>r = .none∧Q (.done (.ret (.ref e))) s') E ⟨h',g,d,t,os⟩) (hrest:rest.length ≤ sizeLine:=by size_fits) :
  wpAny (model prog w) A (Builtin.«type.__call__» ⟨.ref C :: rest,[]⟩) Q E ⟨h,g,d,t,os⟩:=by
 have hBn:bmB.contains (.type B)=true:=F.hasB
 repeat (first | with_reducible refine wpAny_loadPart_at hC ?_ | with_reducible refine wpAny_madeBy_exc hC ?_ | wp_step)
 refine codeAny_call_builtin_code (Code.quiet_builtin _ F.quiet) (wpAny_check_new_subU F hBn T hC ?_)
 refine codeAny_exc_new_subU F hBn F T hC ?_ hrest
 show wpAny _ _ _ _ _ _
 have hC₁:=Heap.get?_push_of_some { cls := .ref C,data := .fields #[.ref h.objs.size, .none, .none, .none, .bool false, .none] }
  (Heap.get?_push_of_some { cls := .type "tuple",data := .seq rest.toArray } hC)
 have hfI₁:=Heap.get?_push_of_some { cls := .ref C,data := .fields #[.ref h.objs.size, .none, .none, .none, .bool false, .none] }
  (Heap.get?_push_of_some { cls := .type "tuple",data := .seq rest.toArray } hfI)
 have hn₁:((h.push { cls := .type "tuple",data := .seq rest.toArray }).push { cls := .ref C,data := .fields #[.ref h.objs.size, .none, .none, .none, .bool false, .none] }).Ns N mN :=
  let ⟨o,es,ep,e,r⟩:=hn; ⟨o,es,ep,Heap.get?_push_of_some _ (Heap.get?_push_of_some _ e),r⟩
 have hget:((h.push { cls := .type "tuple",data := .seq rest.toArray }).push
   { cls := .ref C,data := .fields #[.ref h.objs.size, .none, .none, .none, .bool false, .none] }).get? (h.objs.size + 1)=some
   { cls := .ref C,data := .fields #[.ref h.objs.size, .none, .none, .none, .bool false, .none] }:=by heap_get
 have hcC:(Value.ref C :: bm).contains (.ref C)=true:=by simp
 have T₁:=T.keeps (h':=(h.push { cls := .type "tuple",data := .seq rest.toArray }).push { cls := .ref C,data := .fields #[.ref h.objs.size, .none, .none, .none, .bool false, .none] })
  fun b o e=>Heap.get?_push_of_some _ (Heap.get?_push_of_some _ e)
 unfold isInstance
 repeat (first | with_reducible refine wpAny_loadPart_at hget ?_ | (with_reducible refine wpAny_isSubtype_exc hC₁ ?_;rw [hcC]) | wp_step)
 show wpAny _ _ (typeLookup (.ref C) _) _ _ _
 refine wpAny_typeLookup_tail hC₁ hn₁ T₁ F.mroIs F.init.lookup ?_
 rw [hi]
 refine wpAny_holding (wpAny_bind ?_)
 unfold bindSpecial
 refine wpAny_bind (wpAny_typeOf (T := "function") ⟨_,hfI₁,hfc⟩ ?_)
 rw [if_pos (by decide)]
 refine wpAny_pure (wpAny_bind (wpAny_mono (hq _ (h.objs.size + 1) ⟨fun b o hb=>Heap.get?_push_of_some _ (Heap.get?_push_of_some _ hb),Heap.get?_none_of_le (Nat.le_succ _),h.objs.size,hget,Heap.get?_none_of_le (Nat.le_refl _),?_⟩ (Nat.le_succ _)) (fun r s' hr=>?_) fun _ _ x=>x))
 ·exact Heap.get?_push_of_some _ (Heap.get?_push_at rfl rfl)
 ·obtain ⟨rfl,hQ⟩:=hr
  wp_walk
  exact hQ
theorem zmV (F:ExcBaseFacts B newId initId bmB) (T:OwnTail h bmB bm) {mN:Str→Option Value} {rest:List Value} {fI:Addr} {oI:Obj} {Q:Value→Shared→Prop}
  (hC:h.get? C=some (excClassObj nm q C N bs bm hdct sn sub ab col dd k0 k1 k2 k3 k5 newId)) (hn:h.Ns N mN) (hi:mN "__init__" = some (.ref fI))
  (hfI:h.get? fI=some oI) (hfc:oI.cls = .type "function")
  (hq:∀ h' e,Heap.MadeExcOf h h' e (.ref C) rest→h.objs.size ≤ e →
   wpAny (model prog w) (A.under (.builtin "type.__call__" ⟨.ref C :: rest,[]⟩)) (call (.ref fI) (.ref e :: rest)) (fun r s'=>r = .none∧Q (.ref e) s') E ⟨h',g,d,t,os⟩) (hrest:rest.length ≤ sizeLine:=by size_fits) :
  wpAny (model prog w) A (call (.ref C) rest) Q E ⟨h,g,d,t,os⟩:=by
 have f1:=tc_lookup
 have f2:=tc_bind (.ref C)
 have hT:(⟨h,g,d,t,os⟩ : Shared).TypeIs (.ref C) "type":=⟨_,hC,rfl⟩
 refine wpAny_call (codeAny_of_tree ?_)
 show wpAny _ _ (callAny (.ref C) _) _ _ _
 repeat (any_goals (first | assumption | with_reducible refine wpAny_loadPart_at hC ?_ | wp_step))
 refine ⟨rfl,?_⟩
 refine codeAny_call_builtin_at (Code.quiet_builtin _ (by decide +kernel)) entry_typeCall (wpAny_check_type_call_sub hC (zhg (hrest:=hrest) F T hC hn hi hfI hfc fun h' e hm hz=>?_))
 exact hq h' e hm hz
end
end L2
namespace L2
open PySem PySem.Spec PyProof.Rows
abbrev zct (C t:Addr) (dx:Option Addr):Obj:={ cls := .ref C,dict:=dx,data := .fields #[.ref t, .none, .none, .none, .bool false, .none] }
section
variable {prog:Program} {w:World} {A:Around} {E:Value→Shared→Prop} {h:Heap} {g:Array GenState} {d:Drawn} {t:Nat} {os:OsState}
variable {nm q:Str} {C N:Addr} {bs bm bmB:List Value} {hdct:Bool} {sn:List Str} {sub:List Value} {ab:Bool} {col:Option Bool} {dd:Option Addr} {k0 k1 k2 k3 k5:Option Value} {B newId initId:String}
theorem znW (F:ExcBaseFacts B newId initId bmB) (T:OwnTail h bmB bm) {v:Value} {e t0:Addr} {Q:Value→Shared→Prop}
  (hC:h.get? C=some (excClassObj nm q C N bs bm hdct sn sub ab col dd k0 k1 k2 k3 k5 newId)) (he:h.get? e=some (zct C t0 none))
  (hq:∀ h' t1,(∀ b o,b ≠ e→h.get? b=some o→h'.get? b=some o)→h'.get? e=some (zct C t1 none)→Q .none ⟨h',g,d,t,os⟩) :
  wpAny (model prog w) A (call (.builtin initId) [.ref e,v]) Q E ⟨h,g,d,t,os⟩:=by
 refine wpAny_call (codeAny_call_builtin F.init.plain F.initEntry (wpAny_check_init_subU F T hC he rfl ?_))
 wp_walk
 refine hq _ h.objs.size (fun b o hb hbo=>?_) ?_
 ·rw [Heap.get?_update_other _ _ (Ne.symm hb)]
  exact Heap.get?_push_of_some _ hbo
 ·rw [Heap.get?_update_self _ (Heap.get?_push_of_some _ he) rfl]
  rfl
end
end L2
namespace L2
open PySem PySem.Spec PyProof.Rows Builtin Builtin.ObjectAttr
theorem zii {h:Heap} {bmB tl:List Value} (T:OwnTail h bmB tl) (self:Value) (what:Str):refuseLoop self what tl=refuseLoop self what bmB:=by
 induction T with
 | base=>rfl
 | own _ _ _ _ ih=>rw [refuseLoop_ref,ih]
theorem zc9 {M:Model} {A:Around} {E:Value→Shared→Prop} {K:PySem.W.Frag} {s:Shared} {C:Addr} {n:Str} {y:Option Value} {Q:Option Value→Shared→Prop} (X:K.In s.heap) (e:PySem.W.findIn K (.ref C) n=some y) (q:Q y s):wpAny M A (typeLookup (.ref C) n) Q E s :=
 (PySem.W.looks_findIn X e).here q
section
variable {prog:Program} {w:World} {A:Around} {E:Value→Shared→Prop} {h:Heap} {g:Array GenState} {d:Drawn} {t:Nat} {os:OsState} {K:PySem.W.Frag}
variable {nm q:Str} {C N:Addr} {bs bm:List Value} {sn:List Str} {sub:List Value} {ab:Bool} {col:Option Bool} {dd:Option Addr} {k0 k1 k2 k3 k5:Option Value} {newId:String}
set_option maxHeartbeats 2000000 in
theorem zpD {Q:Unit→Shared→Prop} {name:Str} {v:Value} {e t0:Addr} (X:K.In h) (T:OwnTail h bmVE bm)
  (hC:h.get? C=some (excClassObj nm q C N bs bm true sn sub ab col dd k0 k1 k2 k3 k5 newId)) (he:h.get? e=some (zct C t0 none))
  (hs:PySem.W.findIn K (.ref C) "__setattr__" = some (some (.builtin "object.__setattr__"))) (hf:PySem.W.findIn K (.ref C) name=some none)
  (hq:∀ h' tk' dx,h.objs.size ≤ dx→(∀ b o,b ≠ e→h.get? b=some o→h'.get? b=some o)→h'.get? e=some (zct C t0 (some dx))→h'.Ns1 dx (fun y=>if y=name then some v else none)→Q () ⟨h',g,d,tk',os⟩) :
  wpAny (model prog w) A (setAttr (.ref e) name v) Q E ⟨h,g,d,t,os⟩:=by
 have SF:=PySem.F.store_ValueError
 have f3:=SF.slot.bind (.ref e)
 have hpass:=SF.passes (.ref e)
 have hcont:(Value.ref C :: bm).contains (.type "object")=true:=by rw [List.contains_cons,T.hasType (b:=true) (by decide),Bool.or_true]
 have hcheck:∀ {nameV:Value} {tk:Nat} {Q':Unit→Shared→Prop},Q' () ⟨h,g,d,tk,os⟩→∀ (A':Around) (E':Value→Shared→Prop),wpAny (model prog w) A' (checkBuiltinCall "object.__setattr__" ⟨[.ref e,nameV,v],[]⟩) Q' E' ⟨h,g,d,tk,os⟩:=by
  intro nameV tk Q' hq' A' E'
  have ha:=SF.args (.ref e) nameV v
  simp only [checkBuiltinCall,SF.kind,SF.split]
  refine wpAny_bind ?_
  unfold isInstance
  repeat (first | with_reducible refine wpAny_loadPart_at he ?_ | (with_reducible refine wpAny_isSubtype_exc hC ?_;rw [hcont]) | wp_step)
  exact hq'
 have hty:∀ {tk:Nat} {Q':Value→Shared→Prop} {A':Around} {E':Value→Shared→Prop},Q' (.ref C) ⟨h,g,d,tk,os⟩→wpAny (model prog w) A' (typeOf (.ref e)) Q' E' ⟨h,g,d,tk,os⟩:=by
  intro tk Q' A' E' hq'
  unfold typeOf
  repeat (first | with_reducible refine wpAny_loadPart_at he ?_ | wp_step)
  exact hq'
 unfold setAttr callSpecial? specialOf
 refine wpAny_bind (wpAny_mkText (wpAny_bind (wpAny_bind (wpAny_bind (hty (zc9 (s:=⟨h,g,d,t + 1,os⟩) X hs (wpAny_holding ?_)))))))
 rw [f3]
 refine wpAny_bind (wpAny_pure (wpAny_bind (wpAny_call (codeAny_call_builtin SF.slot.plain SF.entry (hcheck ?_ _ _)))))
 show wpAny _ _ (Builtin.«object.__setattr__» ⟨[.ref e, .str name t,v],[]⟩) _ _ _
 rw [PySem.W.osa_eq,refuse_eq]
 refine wpAny_bind (wpAny_bind (hty (wpAny_bind (wpAny_mroOf_exc hC ?_))))
 rw [refuseLoop_ref,zii T,hpass]
 refine wpAny_pure (wpAny_bind (hty (wpAny_bind (zc9 (s:=⟨h,g,d,t + 1,os⟩) X hf (wpAny_bind (wpAny_pure ?_))))))
 show wpAny _ _ (storeInOwnDict _ _ _ _ _ _) _ _ _
 unfold storeInOwnDict
 refine wpAny_bind (wpAny_pure ?_)
 rw [if_neg (by simp)]
 have he₁:(h.push { cls := .type "dict",data := .dict #[] }).get? e=some (zct C t0 none):=Heap.get?_push_of_some _ he
 have hxs:e ≠ h.objs.size:=Nat.ne_of_lt (Heap.lt_size he)
 have hgd:((h.push { cls := .type "dict",data := .dict #[] }).update e fun o=>{ cls:=o.cls,dict:=some h.objs.size,data:=o.data,slots:=o.slots }).get? h.objs.size
   = some { cls := .type "dict",data := .dict #[] }:=(Heap.get?_update_ne _ _ _ _ hxs.symm).trans (Heap.get?_push_at rfl rfl)
 have hnd:((h.push { cls := .type "dict",data := .dict #[] }).update e fun o=>{ cls:=o.cls,dict:=some h.objs.size,data:=o.data,slots:=o.slots }).Ns h.objs.size (fun _=>none) :=
  ⟨_,#[],_,hgd,rfl,fun e he=>absurd he (by simp),fun _=>rfl⟩
 have hex:((h.push { cls := .type "dict",data := .dict #[] }).update e fun o=>{ cls:=o.cls,dict:=some h.objs.size,data:=o.data,slots:=o.slots }).get? e=some (zct C t0 (some h.objs.size)) :=
  Heap.get?_update_self _ he₁ rfl
 refine wpAny_bind ?_
 unfold ownDictForStores instanceDict
 repeat (first | with_reducible refine wpAny_loadPart_at he ?_ | with_reducible refine wpAny_loadPart_at hC ?_ | with_reducible refine wpAny_alloc' ?_ | with_reducible refine wpAny_update' he₁ ?_ | ((fail_if_success with_reducible refine wpAny_nsSet1 (Heap.Ns1.of_empty hnd) fun h' hn' hs'=>?_);wp_step))
 refine wpAny_nsSet1 (Heap.Ns1.of_empty hnd) fun h' hn' hs'=>?_
 obtain ⟨oD,esD,epD,hoD,hdD,hcD⟩:=hn'.count (Within.cons name v Within.nil)
 refine wpAny_bind (wpAny_lookBehind hoD (by rw [hdD];exact pastItsLine_dict (Nat.le_trans hcD (by rw [List.length_cons,List.length_nil,sizeLine_eq];omega))) ?_)
 wp_walk
 refine hq h' _ h.objs.size (Nat.le_refl _) (fun b ob hbx hb=>?_) ((hs'.2 e hxs).trans hex) hn'
 exact (hs'.2 b (Nat.ne_of_lt (Heap.lt_size hb))).trans ((Heap.get?_update_ne _ _ _ _ hbx).trans (Heap.get?_push_of_some _ hb))
end
end L2
namespace L2
open PySem PySem.Spec PyProof.Rows
theorem zhu:(Str.empty:Str).length=0:=by decide
theorem text_len {y:Str} {i:Int} (hy:y.length ≤ 1000) (hl:i.natAbs.log2 < 1920):(Str.empty ++ y ++ Str.ofString (toString i)).length ≤ 3000:=by
 have e:=int_text_length_le (k:=1920) (by decide) hl
 rw [strLen_append,strLen_append,zhu,PySem.ofString_length];omega
section
variable {X:Cx}
def zpB (j:Nat):TE:=fun σ H Q=>∃ i,σ[j]? = some (some (.int i))∧i.natAbs.log2 < 1920∧∀ x,Q (.str x) H
theorem zlz {j c c':Nat} {a y z:Str} {p1 p2 p3 p4 pos:Pos} (hN:X.N[j]? = some a) (hv:Vis X.env.scope a) (hd:(a == ("__debug__" : Str))=false:=by decide) (hcd:(a == ("__classdict__" : Str))=false:=by decide) (hy:y.length ≤ 1000:=by decide) (hz:z.length ≤ 1000:=by decide) :
  PE X (.JoinedStr [.Constant (.str y) c p1, .FormattedValue (.Name a p2) (-1) none p3, .Constant (.str z) c' p4] pos) (zpB j):=by
 intro pins s σ H Q I ⟨i,hi,hl,q⟩
 refine JoinedStr_many (joinParts_cons (Calls.Constant_str ⟨?_,joinParts_cons (FormattedValue_plain (thn (zf5 hN hv hd hcd pins _ σ H (fun v H'=>v = .int i∧H'=H) (I.tok _) ⟨_,hi,rfl,rfl⟩) fun u s1 ⟨v,H1,I1,r1,e1,e2⟩=>?_))⟩))
 ·rw [strLen_append,zhu,sizeLine_eq];omega
 ·subst e1 e2
  obtain ⟨t,rfl⟩:=r1
  have y1:=text_len hy hl
  have y2:(Str.empty ++ y ++ Str.ofString (toString i) ++ z).length ≤ 4000:=by rw [strLen_append];omega
  refine formatField_int_small hl ⟨by rw [sizeLine_eq];omega,joinParts_cons (Calls.Constant_str ⟨by rw [sizeLine_eq];omega,joinParts_nil ⟨.str _,_,((I1.tok _).tok _),⟨_,rfl⟩,q _⟩ (by rw [sizeLine_eq];omega)⟩)⟩
end
end L2
namespace L2
open PySem PySem.Spec PyProof.Rows
theorem zjC {K:PySem.W.Frag} {h:Heap} {N:Addr} {mg:Str→Option Value} {n:Str} {v:Value} (X:K.In h) (G:h.Ns N mg) (e:PySem.W.nsIn K N n=some (some v)):mg n=some v:=by
 obtain ⟨o,es,ep,ho,hd,_,hf⟩:=G
 unfold PySem.W.nsIn at e
 split at e
 ·rename_i c d es' n' sl q
  have:=X _ _ q
  rw [ho] at this
  cases this
  cases hd
  split at e
  ·rename_i en he
   cases e
   rw [← hf]
   unfold nsFind findBy
   rw [← Array.find?_toList,he]
   rfl
  ·split at e <;> cases e
 ·cases e
def zku (K:PySem.W.Frag) (C fI:Addr):Bool:=match K.lookup C with
 | some ⟨.type "type",_, .cls cd,sl⟩=>(match cd.mro,sl.toList with
  | .ref C' :: bm,[_,_,_,_,some (.builtin n),_]=>C' == C && n == "ValueError.__new__" && !cd.hasDel && cd.hasDict && PySem.W.tailIn K bmVE bm && PySem.W.nsOkIn K cd.ns && PySem.W.nsIn K cd.ns "__init__" == some (some (.ref fI))
  | _,_=>false)
 | _=>false
structure OwnI (K:PySem.W.Frag) (C fI:Addr) (fld:Str):Prop where
 inK:zku K C fI=true
 fn:PySem.W.typeIn K (.ref fI)=some (.type "function")
 setA:PySem.W.findIn K (.ref C) "__setattr__" = some (some (.builtin "object.__setattr__"))
 nof:PySem.W.findIn K (.ref C) fld=some none
theorem OwnI.obj {K:PySem.W.Frag} {C fI:Addr} {fld:Str} (O:OwnI K C fI fld) {h:Heap} (X:K.In h):∃ bm N nm q bs sn sub ab col dd k0 k1 k2 k3 k5 mN oI,h.get? C=some (excClassObj nm q C N bs bm true sn sub ab col dd k0 k1 k2 k3 k5 "ValueError.__new__")∧h.Ns N mN∧mN "__init__" = some (.ref fI)∧OwnTail h bmVE bm∧h.get? fI=some oI∧oI.cls = .type "function":=by
 have q:=O.inK
 obtain ⟨oI,ho',hc'⟩:=Option.map_eq_some_iff.mp O.fn
 unfold zku at q
 split at q
 ·rename_i dd cd sl ho
  split at q
  ·rename_i C' bm k0 k1 k2 k3 n k5 hm hs
   simp only [Bool.and_eq_true,beq_iff_eq,Bool.not_eq_true'] at q
   obtain ⟨⟨⟨⟨⟨⟨rfl,rfl⟩,hdel⟩,hdi⟩,ht⟩,hok⟩,hni⟩:=q
   obtain ⟨nm,bs,mro,ns,qn,hd,sn,sub,ab,col,del⟩:=cd
   dsimp only at hm hdel hok hni hdi
   subst hm hdel hdi
   have hsl:sl = #[k0,k1,k2,k3,some (.builtin "ValueError.__new__"),k5]:=by
    obtain ⟨l⟩:=sl
    simp only at hs
    rw [hs]
   subst hsl
   exact ⟨bm,ns,nm,qn,bs,sn,sub,ab,col,dd,k0,k1,k2,k3,k5,_,oI,X _ _ ho, .of_isNs (PySem.W.isNs_of_in X hok),zjC X (.of_isNs (PySem.W.isNs_of_in X hok)) hni,PySem.W.tail_of_in X ht,X _ _ ho',hc'⟩
  ·cases q
 ·cases q
structure zmQ (K:PySem.W.Frag) (R:Addr):Prop where
 reads:PySem.W.readsIn K R (.type "type")=true
 find:PySem.W.findCls K (.ref R) (.type "type") "__init__" = some (.val (.builtin "ValueError.__init__"))
 ga:PySem.W.specialIn K (.ref R) "__getattribute__" = some (some (.builtin "type.__getattribute__"))
theorem zkS:PySem.W.handedIn (.builtin "ValueError.__init__")=true:=by decide +kernel
end L2
namespace L2
open PySem PySem.Spec PyProof.Rows
def zl0 (X:Cx) (H:Hp) (s1:Shared) (e C:Addr) (fld:Str) (i:Int) (s':Shared):Prop:=∃ dx t1,s1.heap.objs.size ≤ dx∧dx ≠ e∧s'.os=s1.os∧AllBare s'.gens ∧
 Un (frs X.stack) [] H (upd H dx (.xd [(fld, .int i)])) s1.heap s'.heap∧HOk X.prog X.w (upd H dx (.xd [(fld, .int i)])) s'.heap∧s'.heap.get? e=some (zct C t1 (some dx))
section
variable {X:Cx} {pins:List (Addr × Obj)} {σ:St} {H:Hp} {s1:Shared} {C fI R e:Addr} {fld qual rk sf pa:Str} {st:Stmt} {fd:FuncData} {t:Tok} {i:Int} {h2:Heap} {k:Nat} {je:Expr} {np ap cp ep p1 p2 ap2 p3 apos:Pos}
theorem Inv.znb {Z:Cx} {s0 s3:Shared} {τ:St} {H:Hp} (J:Inv Z [] τ H s3) (hH:Z.H₀=H) (hex:Z.ex=[]) (hos:s0.os=Z.s₀.os) (hsz:s0.heap.objs.size ≤ Z.s₀.heap.objs.size) (k:∀ b o,s0.heap.get? b=some o→s3.heap.get? b=some o)
  (bs:∀ b o,Z.base.get? b=some o→s0.heap.get? b=some o∧H b=none) (bsz:Z.base.objs.size ≤ s0.heap.objs.size) (funs:s0.heap.FunFrames Z.base Z.outer):Inv { Z with s₀:=s0 } [] τ H s3 :=
 ⟨⟨J.ok.mod,J.ok.kind,J.ok.glob,J.ok.blt,Nat.le_trans hsz J.ok.above,J.ok.inj,J.ok.has,fun x c a b=>Nat.le_trans hsz (J.ok.cab x c a b),J.ok.hd,J.ok.frames,J.ok.stk,J.ok.exf,fun b o h=>by subst hH;exact bs b o h,bsz,J.ok.noex,J.ok.exfs,funs,J.ok.frf⟩,
  J.os.trans hos.symm,J.bare,by subst hH;exact Un.kept k,J.loc,J.cell,J.free,J.freeC,J.pin,J.hok,J.len⟩
end
end L2
namespace L2
open PySem PySem.Spec PyProof.Rows
section
variable {X:Cx} {pins:List (Addr × Obj)} {σ:St} {H:Hp} {s1:Shared} {C fI R e:Addr} {fld qual rk sf pa:Str} {st:Stmt} {fd:FuncData} {t:Tok} {i:Int} {h2:Heap} {k:Nat} {je:Expr} {np ap cp ep p1 p2 ap2 p3 apos:Pos}
structure zmh (st:Stmt) (fld rk sf pa:Str):Prop where
 scope:zat [sf,pa] [sf,pa] (zab st)
 glob:(zab st).names.lookup rk=some .globalImplicit
 loc0:(zab st).names.lookup sf=some .local
 loc1:(zab st).names.lookup pa=some .local
 dbg:(rk == ("__debug__" : Str))=false∧(sf == ("__debug__" : Str))=false∧(pa == ("__debug__" : Str))=false∧(sf == ("__classdict__" : Str))=false∧(pa == ("__classdict__" : Str))=false
 text:∃ (je:Expr) (np ap cp ep p1 p2 ap2 p3 apos:Pos),zai st=[.Expr (.Call (.Attribute (.Name rk np) "__init__" ap) [.Name sf p1,je] [] cp) ep, .Assign [.Attribute (.Name sf p2) fld ap2] (.Name pa p3) apos] ∧
  (∀ env,starEach [.Name sf p1,je] env=(false,eval (.Name sf p1) env) :: starEach [je] env)∧(∀ env,starEach [je] env=(false,eval je env) :: starEach [] env) ∧
  (∀ env:Env,∃ pl,eval (.Call (.Attribute (.Name rk np) "__init__" ap) [.Name sf p1,je] [] cp) env=(do
   let ov ← eval (.Name rk np) env
   standAt ap.atName
   let (f,first) ← holding [ov] (getMethod ov "__init__" pl)
   callWith cp f first (backTo cp (starEach [.Name sf p1,je] env)) [])) ∧
  (∀ env,swapsWith (.Call (.Attribute (.Name rk np) "__init__" ap) [.Name sf p1,je] [] cp) none ep.line env=pure false) ∧
  (∀ env,swapsWith (.Name pa p3) (some (.Attribute (.Name sf p2) fld ap2)) apos.line env=pure false) ∧
  (∀ Y:Cx,Y.N=[sf,pa]→Y.env.scope=zab st→PE Y je (zpB 1))
theorem znz (O:OwnI X.K C fI fld) (B:zmQ X.K R) (F:Fun X.K "__init__" qual st fI fd) (S:zmh st fld rk sf pa) (hb:Binds X.K fd [sf,pa] []) (hmR:X.mg rk=some (.ref R))
  (hr:Room (k + 2) X.A) (hi:i.natAbs.log2 < 1920) (I:Inv X pins σ H s1) (M:Heap.MadeExcOf s1.heap h2 e (.ref C) [.int i t]) (he:s1.heap.objs.size ≤ e) {E:Value→Shared→Prop} :
  wpAny (model X.prog X.w) (X.A.under (.builtin "type.__call__" ⟨[.ref C, .int i t],[]⟩)) (call (.ref fI) [.ref e, .int i t]) (fun r s'=>r = .none∧zl0 X H s1 e C fld i s') E { s1 with heap:=h2 }:=by
 obtain ⟨je,np,ap,cp,ep,p1,p2,ap2,p3,apos,hbody,hst,hst2,ht,hs1,hs2,hje⟩:=S.text
 obtain ⟨oc,od,kV,doc,pm,an,cdv,ct,osl,rfl,lk,hcd⟩:=F.ex
 have I2:Inv X pins σ H { s1 with heap:=h2 }:=I.kept (t':=s1.toks) M.keeps
 have e0:=I2.env0.make C [.int i t] []
 have hr':Room (k + 1) (X.A.under (.builtin "type.__call__" ⟨[.ref C, .int i t],[]⟩)):=hr.make C [.int i t] []
 have KX:=I2.kIn
 have lim:=I2.nolimit
 have hlt2:s1.heap.objs.size ≤ h2.objs.size:=by
  obtain ⟨tt,ht',_⟩:=M.there
  exact Nat.le_trans he (Nat.le_of_lt (Heap.lt_size ht'))
 have hkind:∀ y ∈ [sf,pa].zip [Value.ref e,Value.int i t],(zab st).names.lookup y.1=some .local∨((zab st).names.lookup y.1=some .cell∧((cellsFrom (h2.objs.size + 1) (zab st).names []).lookup y.1).isSome=true):=fun ⟨n,v⟩ hy=>by
  rcases S.scope.par n (List.of_mem_zip hy).1 with q | q
  ·exact .inl q
  ·exact .inr ⟨q,PySem.W.cellsFrom_some _ _ _ (.inl q)⟩
 have hb':=hb { s1 with heap:=h2 } [.ref e, .int i t] KX rfl
 rw [List.append_nil] at hb'
 refine wpAny_call (codeAny_call_function hr'.depth (KX _ _ lk) rfl S.scope.co S.scope.gen rfl (PySem.W.codeRec_of KX hcd) (hb' _ _ _ _ ?_))
 refine wpAny_newFunctionEnv_cells S.scope.kind hkind fun env henv s3 x=>?_
 subst henv
 refine ⟨lim.keeps x.toInCall.keep,codeAny_func ?_⟩
 have J:=zd2 (CX:=CX0) (E:=E0) (N:=[sf,pa]) (vs:=[.ref e, .int i]) S.scope hr'.hd e0 rfl (.cons rfl (.cons ⟨t,rfl⟩ .nil)) x
 have J1:=(Inv.znb (s0:=s1) J rfl rfl rfl hlt2 (fun b o h=>x.toInCall.keep _ _ (M.keeps _ _ h)) I.bs (Nat.le_trans I.ok.bsz (Nat.le_trans I.ok.above (Nat.le_of_lt I.lt))) I.stack).wish (fun _ _=>False)
 rw [hbody]
 obtain ⟨tt,htt,htn,_⟩:=M.there
 have hHe:H e=none:=I.hok.fresh he
 have heL:e ≠ h2.objs.size:=Nat.ne_of_lt (Heap.lt_size htt)
 have heF:e ∉ frs X.stack:=fun hb=>by
  rcases List.mem_cons.mp (I.zga e hb) with z | z
  ·exact absurd (z ▸ I.lt) (Nat.not_lt.mpr he)
  ·exact I.nofs he z
 have cells0:∀ y c,(envOfC qual (zab st) h2.objs.size fI cdv).cells.lookup y=some c→c ≠ e:=fun y c h z=>by
  have a1:h2.objs.size < c:=x.above y c (PySem.mem_of_lookup h)
  have a2:=Heap.lt_size htt
  exact absurd (Nat.lt_trans a2 (z ▸ a1)) (Nat.lt_irrefl _)
 have JP:Inv _ [(e,zct C tt none)] _ H s3:=⟨J1.ok,J1.os,J1.bare,J1.base,J1.loc,J1.cell,J1.free,J1.freeC,fun p hp=>by
  rw [List.mem_singleton.mp (show p ∈ [(e,zct C tt none)] from hp)]
  exact ⟨x.toInCall.keep _ _ htt,hHe,heL,heF,fun v h=>by cases h⟩,J1.hok,J1.len⟩
 obtain ⟨pl,hpl⟩:=ht (envOfC qual (zab st) h2.objs.size fI cdv)
 refine wpAny_execs_cons (wpAny_Expr_any (MethodCall_ (pl:=pl) (zdN JP S.glob hmR ?_ S.dbg.1) hpl) JP.quiet (hs1 _))
 refine PySem.W.method_cls JP.kIn B.ga (PySem.W.cls_value JP.kIn B.reads B.find zkS ?_)
 have JQ:=JP.tok (s3.toks + 1)
 have hpa:=zgn (X:=({ (cxOf CX0 X.prog X.w X.K X.mg X.base [sf,pa] qual (zab st) fI cdv (X.A.under (.builtin "type.__call__" ⟨[.ref C, .int i t],[]⟩)) X.stack { s1 with heap:=h2 } H E0) with s₀:=s1 }:Cx).wish fun _ _=>False) (zf5 (i:=0) (pos:=p1) rfl (.inl S.loc0) S.dbg.2.1 S.dbg.2.2.2.1) (zgn (hje _ rfl rfl) zk8 (hst2 _)) (hst _)
 refine PyProof.Rows.callWith_builtin1 (wpAny_mono (hpa cp _ _ _ _ (fun vs H1=>H1=H∧∃ y,vs=[.ref e, .str y]) JQ ⟨_,rfl,i,rfl,hi,fun y=>⟨rfl,y,rfl⟩⟩) (fun us s4 ⟨vs,H1,I4,r4,e4,y,ev⟩=>?_) fun _ _ z=>z.elim) (hst _) (by rw [hst2];rfl)
 subst e4 ev
 obtain ⟨u1,u2,rfl,ru1,ru2⟩:=vals2 r4
 obtain rfl:u1 = .ref e:=ru1
 obtain ⟨bm,N,nm,q,bs,sn,sub,ab,col,dd,k0,k1,k2,k3,k5,mN,oI,hC,hN,hni,hT,hfI,hfc⟩:=O.obj I.ok.mod.kin
 obtain ⟨h4,g4,d4,t4,o4⟩:=s4
 have he4:h4.get? e=some (zct C tt none):=(I4.pin _ (List.mem_append_right _ (List.mem_singleton.mpr rfl))).1
 refine znW PySem.F.excBase_ValueError (hT.keeps I4.bk) (I4.bk _ _ hC) he4 fun h5 t5 k5' he5=>?_
 have I5:Inv _ [] _ H1 ⟨h5,g4,d4,t4,o4⟩:=I4.zlG.turned (t':=t4) k5' hHe heL (.inr he) cells0 fun p hp=>absurd (show p ∈ ([] : List (Addr × Obj)) from hp) (by simp)
 have I5p:Inv _ [(e,zct C t5 none)] _ H1 ⟨h5,g4,d4,t4,o4⟩:=⟨I5.ok,I5.os,I5.bare,I5.base,I5.loc,I5.cell,I5.free,I5.freeC,fun p hp=>by
  rw [List.mem_singleton.mp (show p ∈ [(e,zct C t5 none)] from hp)]
  exact ⟨he5,hHe,heL,heF,fun v h=>by cases h⟩,I5.hok,I5.len⟩
 refine wpAny_execs_cons (plainObj_wpAny_Assign_Attribute (wpAny_mono (zf5 (i:=1) (pos:=p3) rfl (.inl S.loc1) S.dbg.2.2.1 S.dbg.2.2.2.2 _ _ _ _ (fun v H'=>v = .int i∧H'=H1) I5p ⟨_,rfl,rfl,rfl⟩) (fun u6 s6 ⟨v6,H6,I6,r6,e6,e6'⟩ =>
  wpAny_mono (zf5 (i:=0) (pos:=p2) rfl (.inl S.loc0) S.dbg.2.1 S.dbg.2.2.2.1 _ _ _ _ (fun v H'=>v = .ref e∧H'=H1) (e6' ▸ I6) ⟨_,rfl,rfl,rfl⟩) (fun u7 s7 ⟨v7,H7,I7,r7,e7,e7'⟩=>?_) fun _ _ z=>z.elim) fun _ _ z=>z.elim) (hs2 _))
 subst e6 e7 e7'
 obtain rfl:u7 = .ref e:=r7
 obtain ⟨h7,g7,d7,t7,o7⟩:=s7
 have he7:h7.get? e=some (zct C t5 none):=(I7.pin _ (List.mem_append_right _ (List.mem_singleton.mpr rfl))).1
 refine zpD I7.kIn (hT.keeps I7.bk) (I7.bk _ _ hC) he7 O.setA O.nof fun h8 tk8 dx hdx k8 he8 hns8=>?_
 have hlt:∀ b o,h7.get? b=some o→b ≠ dx:=fun b o h z=>absurd (z ▸ Heap.lt_size h) (Nat.not_lt.mpr hdx)
 have hltH:∀ b o,H7 b=some o→b ≠ dx:=fun b o h z=>absurd (z ▸ I7.hok.lt h) (Nat.not_lt.mpr hdx)
 have hok8:HOk X.prog X.w (upd H7 dx (.xd [(fld, .int i)])) h8:=fun b o hb=>by
  by_cases hbd:b=dx
  ·subst hbd
   rw [zaG] at hb
   cases hb
   refine ⟨_,hns8,fun f=>?_⟩
   by_cases hf:f=fld
   ·rw [if_pos hf,hf,List.lookup_cons_self];exact r6
   ·rw [if_neg hf,List.lookup_cons]
    have:(f == fld)=false:=by simpa using hf
    rw [this];exact True.intro
  ·rw [zaj hbd] at hb
   refine (I7.hok b o hb).stay (fun c v hc q=>k8 c v ?_ q) (fun c hc=>by rw [zaj (hltH c _ hc)];exact hc) fun c xs hc=>by rw [zaj (hltH c _ hc)];exact hc
   rcases hc with z | z
   ·rintro rfl;rw [z,← z] at *;rw [hHe] at hb;cases hb
   ·rintro rfl;rw [hHe] at z;cases z
 have un8':Un (frs (envOfC qual (zab st) h2.objs.size fI cdv :: X.stack)) [e] H7 (upd H7 dx (.xd [(fld, .int i)])) h7 h8 :=
  ⟨fun b o h n _ hx=>k8 b o (fun z=>hx (by simp [z])) h,fun b o h n _ hx=>⟨o.slots,k8 b o (fun z=>hx (by simp [z])) h⟩,fun b o h n hx=>by rw [zaj (hlt b o h)];exact n,
   fun b o h hx=>⟨o,k8 b o (fun z=>hx (by simp [z])) h⟩,fun b xs h=>by rw [zaj (hltH b _ h)];exact h,fun b o u h=>by rw [zaj (hltH b _ h)];exact h,fun b ps h=>⟨#[],by rw [zaj (hltH b _ h),h];simp⟩⟩
 have I8:=I7.zlG.call (t':=tk8) (d':=d7) un8' hok8 I7.bare fun b hb=>by
  obtain rfl:b=e:=by simpa using hb
  exact ⟨.inr he,heL,cells0,fun p hp=>absurd (show p ∈ ([] : List (Addr × Obj)) from hp) (by simp)⟩
 refine wpAny_execs_nil ?_
 exact ⟨rfl,dx,t5,Nat.le_trans I7.sz hdx,fun z=>absurd (z ▸ Heap.lt_size he7) (Nat.not_lt.mpr hdx),I8.os,I8.bare,I8.base,hok8,he8⟩
end
end L2
namespace L2
open PySem PySem.Spec PyProof.Rows
section
variable {M:Model} {A:Around} {E:Value→Shared→Prop} {env:Env}
variable {nm q:Str} {C N:Addr} {bs bm:List Value} {hdct:Bool} {sn:List Str} {sub:List Value} {ab:Bool} {col:Option Bool} {dd:Option Addr} {k0 k1 k2 k3 k5:Option Value} {newId:String}
theorem zde {s:Shared} {x:Sem Value} {Q:Flow→Shared→Prop} (hbase:bm.contains (.type "BaseException")=true) (hh:A.handled=none)
  (h:wpAny M A x (fun v s₁=>∃ e t dx,v = .ref e∧s₁.heap.get? C=some (excClassObj nm q C N bs bm hdct sn sub ab col dd k0 k1 k2 k3 k5 newId) ∧
   s₁.heap.get? e=some (zct C t dx)∧E (.ref e) s₁) E s) :
  wpAny M A (raiseStmt env (some x) none) Q E s:=by
 have hcB:(Value.ref C :: bm).contains (.type "BaseException")=true:=by rw [List.contains_cons,hbase,Bool.or_true]
 unfold raiseStmt
 refine wpAny_bind (wpAny_mono h (fun v s₁ h₁=>?_) fun _ _ x=>x)
 obtain ⟨e,t,dx,rfl,hC,he,hE⟩:=h₁
 obtain ⟨hp,g,d,tk,os⟩:=s₁
 repeat (first | with_reducible refine wpAny_loadPart_at he ?_ | with_reducible refine wpAny_loadPart_at hC ?_ | (with_reducible refine wpAny_isSubtype_exc hC ?_;rw [hcB]) | wp_step)
 exact wpAny_raiseNew_none hh hE
end
section
variable {prog:Program} {w:World} {A:Around} {E:Value→Shared→Prop} {s:Shared} {env:Env}
variable {nm q:Str} {C N:Addr} {bs bm bmB:List Value} {hdct:Bool} {sn:List Str} {sub:List Value} {ab:Bool} {col:Option Bool} {dd:Option Addr} {k0 k1 k2 k3 k5:Option Value} {B newId initId:String}
theorem zl9 (F:ExcBaseFacts B newId initId bmB) {mN:Str→Option Value} {x:Str} {np cpos pos:Pos} {args:List Expr} {Q:Flow→Shared→Prop} {fI:Addr} {oI:Obj}
  (hbase:bm.contains (.type "BaseException")=true) (hh:A.handled=none) (hplain:(backTo cpos (starEach args env)).any (·.1)=false) (hi:mN "__init__" = some (.ref fI)) (hfc:oI.cls = .type "function")
  (h:wpAny (model prog w) A (eval (.Name x np) env) (fun f s₁=>f = .ref C∧wpAny (model prog w) A (evalArgs (.ref C) true (backTo cpos (starEach args env)) [])
   (fun a s₂=>a.kw=[]∧a.pos.length ≤ sizeLine∧s₂.heap.get? C=some (excClassObj nm q C N bs bm hdct sn sub ab col dd k0 k1 k2 k3 k5 newId)∧s₂.heap.Ns N mN∧OwnTail s₂.heap bmB bm∧s₂.heap.get? fI=some oI ∧
    ∀ h' e,Heap.MadeExcOf s₂.heap h' e (.ref C) a.pos→s₂.heap.objs.size ≤ e→wpAny (model prog w) (A.under (.builtin "type.__call__" ⟨.ref C :: a.pos,[]⟩)) (call (.ref fI) (.ref e :: a.pos))
     (fun r s'=>r = .none∧s'.heap.get? C=some (excClassObj nm q C N bs bm hdct sn sub ab col dd k0 k1 k2 k3 k5 newId)∧(∃ t dx,s'.heap.get? e=some (zct C t dx))∧E (.ref e) s') E { s₂ with heap:=h' }) E s₁) E s) :
  wpAny (model prog w) A (exec (.Raise (some (.Call (.Name x np) args [] cpos)) none pos) env) Q E s:=by
 rw [arm_exec_Raise]
 first
  | refine wpAny_bind (wpAny_standAt (zde (C:=C) (nm:=nm) (q:=q) (N:=N) (bs:=bs) (bm:=bm) (hdct:=hdct) (sn:=sn) (sub:=sub) (ab:=ab) (col:=col) (dd:=dd) (k0:=k0) (k1:=k1) (k2:=k2) (k3:=k3) (k5:=k5) (newId:=newId) hbase hh (wpAny_bind (wpAny_mono (wpAny_Call_ofName (wpAny_mono h (fun f s₁ h₁=>?_) fun _ _ x=>x)) (fun v s₃ h₃=>wpAny_bind (wpAny_standAt (wpAny_pure h₃))) fun _ _ x=>x))))
  | (simp only [evalOpt,Option.map];refine wpAny_bind (wpAny_standAt (zde (C:=C) (nm:=nm) (q:=q) (N:=N) (bs:=bs) (bm:=bm) (hdct:=hdct) (sn:=sn) (sub:=sub) (ab:=ab) (col:=col) (dd:=dd) (k0:=k0) (k1:=k1) (k2:=k2) (k3:=k3) (k5:=k5) (newId:=newId) hbase hh (wpAny_bind (wpAny_mono (wpAny_Call_ofName (wpAny_mono h (fun f s₁ h₁=>?_) fun _ _ x=>x)) (fun v s₃ h₃=>wpAny_bind (wpAny_standAt (wpAny_pure h₃))) fun _ _ x=>x)))))
  | (refine wpAny_bind (wpAny_standAt (zde (C:=C) (nm:=nm) (q:=q) (N:=N) (bs:=bs) (bm:=bm) (hdct:=hdct) (sn:=sn) (sub:=sub) (ab:=ab) (col:=col) (dd:=dd) (k0:=k0) (k1:=k1) (k2:=k2) (k3:=k3) (k5:=k5) (newId:=newId) hbase hh ?_));refine wpAny_bind (wpAny_mono (wpAny_Call_ofName (wpAny_mono h (fun f s₁ h₁=>?_) fun _ _ x=>x)) (fun v s₃ h₃=>wpAny_bind (wpAny_standAt (wpAny_pure h₃))) fun _ _ x=>x))
 obtain ⟨rfl,h₁⟩:=h₁
 unfold callWith
 refine wpAny_bind (wpAny_holding (wpAny_mono h₁ (fun a s₂ h₂=>wpAny_bind (wpAny_standAt ?_)) fun _ _ x=>x))
 obtain ⟨apos,akw⟩:=a
 obtain ⟨hkw,hlen,hC,hn,T,hfI,h₂⟩:=h₂
 obtain rfl:akw=[]:=hkw
 obtain ⟨hp,g,d,tk,os⟩:=s₂
 simp only [hplain]
 refine wpAny_bind (wpAny_keeperOf_exc hC ?_)
 refine wpAny_bind (zmV (hrest:=hlen) F T hC hn hi hfI hfc fun h' e hm hz=>wpAny_mono (h₂ h' e hm hz) (fun r s' hr=>⟨hr.1,wpAny_bind (wpAny_holding (wpAny_point (wpAny_pure ?_)))⟩) fun _ _ x=>x)
 obtain ⟨_,a1,⟨t,dx,a2⟩,a3⟩:=hr
 exact ⟨e,t,dx,rfl,a1,a2,a3⟩
end
section
variable {X:Cx} {W:WX} {x:Str} {pos np cpos:Pos} {e:Expr} {t:TA}
def znn (W:WX) (C:Addr) (fld:Str) (t:TA):TS:=fun _ σ H=>t σ H fun vs H1=>∃ i,vs=[.int i]∧i.natAbs.log2 < 1920∧∀ dx,H1 dx=none→W σ (.ref C) (some dx) (upd H1 dx (.xd [(fld, .int i)]))
theorem zkn {C fI R:Addr} {fld qual rk sf pa:Str} {st:Stmt} {fd:FuncData} {k:Nat} (T:zfT X W) (hc:X.calm=true) (O:OwnI X.K C fI fld) (B:zmQ X.K R) (F:Fun X.K "__init__" qual st fI fd) (S:zmh st fld rk sf pa) (hb:Binds X.K fd [sf,pa] [])
  (hmR:X.mg rk=some (.ref R)) (hr:Room (k + 2) X.A) (hg:Gl X x) (hm:X.mg x=some (.ref C)) (ha:PA X [e] t)
  (hdb:(x == ("__debug__" : Str))=false:=by decide) (he:starEach [e] X.env=(false,eval e X.env) :: starEach [] X.env:=by rfl) (hpl:(backTo cpos (starEach [e] X.env)).any (·.1)=false:=by rfl) :
  PS X (.Raise (some (.Call (.Name x np) [e] [] cpos)) none pos) (znn W C fld t):=by
 intro pins s σ H D I h
 obtain ⟨bm,N,nm,q,bs,sn,sub,ab,col,dd,k0,k1,k2,k3,k5,mN,oI,hC,hN,hni,hT,hfI,hfc⟩:=O.obj I.ok.mod.kin
 have hbase:bm.contains (.type "BaseException")=true:=hT.hasType (by decide)
 refine zl9 (hdct:=true) (nm:=nm) (q:=q) (N:=N) (bs:=bs) (sn:=sn) (sub:=sub) (ab:=ab) (col:=col) (dd:=dd) (k0:=k0) (k1:=k1) (k2:=k2) (k3:=k3) (k5:=k5) PySem.F.excBase_ValueError hbase (I.ok.hd hc) hpl hni hfc (zdN I hg hm ⟨rfl,?_⟩ hdb)
 rw [he]
 refine Calls.evalArgs_plain ?_
 have ha':=ha cpos pins s σ H _ I h
 rw [he] at ha'
 refine thn ha' fun us s1 ⟨vs,H1,I1,r,i,ev,hl,q1⟩=>?_
 subst ev
 obtain ⟨u,rfl,tu,rfl⟩:=vals1 r
 refine ⟨rfl,by show 1 ≤ sizeLine;rw [sizeLine_eq];omega,I1.bk _ _ hC,hN.keeps I1.bk,hT.keeps I1.bk,I1.bk _ _ hfI,fun h' a M hz=>?_⟩
 refine wpAny_mono (znz O B F S hb hmR hr hl I1 M hz) (fun r s' hp=>⟨hp.1,?_⟩) fun _ _ z=>z
 obtain ⟨_,dx,t1,hdx,hne,hos,hbare,hun,hok,hex⟩:=hp
 have I2:Inv X [] σ _ s':=(I1.zod hos hun hok hbare (fun b z=>absurd z (by simp))).zlG
 have hHa:upd H1 dx (.xd [(fld, .int i)]) a=none:=by rw [zaj (Ne.symm hne)];exact I1.hok.fresh hz
 refine ⟨I2.bk _ _ hC,⟨t1,some dx,hex⟩,T.to _ _ ⟨σ,_,a, .ref C,some dx,rfl,I2,⟨I1.first T.ex M.new,hHa,_,_,hex,rfl,rfl,rfl,by simp, .inl ⟨rfl,rfl⟩⟩,q1 dx (I1.hok.fresh hdx)⟩⟩
end
end L2
namespace L2
open PySem PySem.Spec PyProof.Rows Builtin Builtin.ObjectAttr
structure XAt (K:PySem.W.Frag) (D:Addr) (fld:Str):Prop where
 ga:PySem.W.findIn K (.ref D) "__getattribute__" = some (some (.builtin "BaseException.__getattribute__"))
 gx:PySem.W.findIn K (.ref D) "__getattr__" = some none
 no:PySem.W.findIn K (.ref D) fld=some none
 be:PySem.W.subIn K (.ref D) (.type "BaseException")=some true
 hd:(PySem.W.clsIn K D).any (·.hasDict)=true
theorem ziO:Slot "BaseException" "__getattribute__" "BaseException.__getattribute__" := .of (owner := "BaseException") (n := "__getattribute__") (by rw [typeLookup_type,builtinLookup_eq_fast];kernel_rfl) (by decide +kernel) (by decide +kernel) (by decide +kernel)
  (by first | exact .inl (by decide +kernel) | exact .inr (by decide +kernel)) (by rw [isSubtype_type];kernel_rfl)
section
variable {prog:Program} {w:World} {A:Around} {E:Value→Shared→Prop} {h:Heap} {g:Array GenState} {d:Drawn} {t:Nat} {os:OsState} {K:PySem.W.Frag} {a D dx:Addr} {o:Obj} {fld:Str} {mA:Str→Option Value} {v:Value} {vs:Array Value}
theorem zkX {tk:Tok} {Q:Fin→Shared→Prop} (X:K.In h) (C:XAt K D fld) (hx:h.get? a=some o) (hc:o.cls = .ref D) (hf:o.data = .fields vs) (hd:o.dict=some dx) (hn:h.Ns1 dx mA) (hv:mA fld=some v) (hq:Q (.done (.ret v)) ⟨h,g,d,t,os⟩) :
  wpAny (model prog w) A (Builtin.«object.__getattribute__» ⟨[.ref a, .str fld tk],[]⟩) Q E ⟨h,g,d,t,os⟩:=by
 have L1:∀ {A':Around} {E':Value→Shared→Prop} {tk':Nat} {Q':Option Value→Shared→Prop},Q' none ⟨h,g,d,tk',os⟩→wpAny (model prog w) A' (typeLookup (.ref D) fld) Q' E' ⟨h,g,d,tk',os⟩:=fun q=>(PySem.W.looks_findIn X C.no).at q
 repeat (any_goals (first | assumption | (with_reducible refine wpAny_loadPart_at hx ?_;rw [hc]) | with_reducible refine L1 ?_ | wp_step))
 rw [hf]
 obtain ⟨cd,hcl,hdd⟩:=PySem.W.any_some C.hd
 have L2':∀ {A':Around} {E':Value→Shared→Prop} {tk':Nat} {Q':ClassData→Shared→Prop},Q' cd ⟨h,g,d,tk',os⟩→wpAny (model prog w) A' (classData D) Q' E' ⟨h,g,d,tk',os⟩:=fun q=>(PySem.W.looks_clsIn X hcl).at q
 show wpAny _ _ (instanceDict a false) _ _ _
 unfold instanceDict
 refine wpAny_bind (wpAny_loadPart_at hx ?_)
 rw [hc]
 refine wpAny_bind (L2' ?_)
 rw [hdd,if_neg (by decide)]
 dsimp only
 rw [hd]
 refine wpAny_pure ?_
 unfold inDict
 repeat (first | (with_reducible refine wpAny_nsGet hn.ns ?_;rw [hv]) | wp_step)
 exact hq
theorem zo0 {Q:Value→Shared→Prop} (X:K.In h) (C:XAt K D fld) (hx:h.get? a=some o) (hc:o.cls = .ref D) (hf:o.data = .fields vs) (hd:o.dict=some dx) (hn:h.Ns1 dx mA) (hv:mA fld=some v) (hh:handedOut v=pure v) (hq:Q v ⟨h,g,d,t + 1,os⟩) {expr:Bool} :
  wpAny (model prog w) A (getAttr (.ref a) fld expr) Q E ⟨h,g,d,t,os⟩:=by
 have f3:=ziO.bind (.ref a)
 have hx0:(expr && onTheHeap (Value.builtin "BaseException.__getattribute__"))=false:=by cases expr <;> rfl
 have hx2:(Value.builtin "BaseException.__getattribute__" == Value.builtin "object.__getattribute__")=false:=by decide +kernel
 have hx1:(onTheHeap (Value.ref D) && Value.builtin "BaseException.__getattribute__" == Value.builtin "object.__getattribute__")=false:=by rw [hx2];rfl
 have hk:builtinKind "BaseException.__getattribute__" = some .slot:=by decide +kernel
 have hsplit:splitId "BaseException.__getattribute__" = some ("BaseException", "__getattribute__"):=by decide +kernel
 have L1:∀ {A':Around} {E':Value→Shared→Prop} {tk':Nat} {Q':Option Value→Shared→Prop},Q' (some (.builtin "BaseException.__getattribute__")) ⟨h,g,d,tk',os⟩→wpAny (model prog w) A' (typeLookup (.ref D) "__getattribute__") Q' E' ⟨h,g,d,tk',os⟩:=fun q=>(PySem.W.looks_findIn X C.ga).at q
 have L2':∀ {A':Around} {E':Value→Shared→Prop} {tk':Nat} {Q':Option Value→Shared→Prop},Q' none ⟨h,g,d,tk',os⟩→wpAny (model prog w) A' (typeLookup (.ref D) "__getattr__") Q' E' ⟨h,g,d,tk',os⟩:=fun q=>(PySem.W.looks_findIn X C.gx).at q
 have hI:PySem.W.Looks (model prog w) h (isInstance (.ref a) (.type "BaseException")) true:=by
  refine PySem.W.Looks.andThen (a := .ref D) ?_ (PySem.W.looks_subIn X C.be)
  have:=PySem.W.Looks.ld (M:=model prog w) (part:=some headPart) hx
  exact this.andThen (by rw [hc];exact .now)
 have call:∀ {tk':Nat} {A':Around} {R:Result→Shared→Prop} {tk:Tok},R (.ok (.ret v)) ⟨h,g,d,tk',os⟩→codeAny (model prog w) A' (.call (.builtin "BaseException.__getattribute__") ⟨[.ref a, .str fld tk],[]⟩) R ⟨h,g,d,tk',os⟩:=fun {tk' A' R tk} q =>
  codeAny_call_builtin ziO.plain PySem.F.entry_bexc_ga (@PySem.W.check_slot (model prog w) _ _ ⟨h,g,d,tk',os⟩ "BaseException.__getattribute__" "BaseException" "__getattribute__" (.ref a) [.str fld tk] [] _ hk hsplit hI (PySem.F.args_bexc_ga (.ref a) (.str fld tk)) (zkX X C hx hc hf hd hn hv q))
 unfold getAttr getAttrBy
 repeat (any_goals (first | assumption | (with_reducible refine wpAny_loadPart_at hx ?_;rw [hc]) | with_reducible refine L1 ?_ | with_reducible refine L2' ?_ | wp_step))
 refine call ?_
 show wpAny _ _ (handedOut v) _ _ _
 rw [hh]
 exact wpAny_pure hq
end
section
variable {X:Cx} {x D dx:Addr} {oe:Obj} {fld:Str} {i:Nat} {n:Str} {np pos:Pos}
def tXat (x dx:Addr) (te:TE) (fld:Str):TE:=fun σ H Q=>te σ H fun v H1=>v = .ref x∧∃ ws v,H1 dx=some (.xd ws)∧ws.lookup fld=some v∧Q v H1
theorem zpm {o:Expr} {te:TE} (he:PE X o te) (hp:(x,oe) ∈ X.pn) (hc:oe.cls = .ref D) (hf:∃ vs,oe.data = .fields vs) (hd:oe.dict=some dx) (C:XAt X.K D fld)
  (hb:attributeBase o fld X.env (eval o X.env)=eval o X.env:=by rfl):PE X (.Attribute o fld pos) (tXat x dx te fld):=by
 intro pins s σ H Q I h
 refine zkb hb (thn (he pins s σ H _ I h) fun u s1 ⟨v0,H1,I1,rx,e0,ws,v,hd1,hl,q⟩=>?_)
 subst e0
 obtain rfl:u=Value.ref x:=rx
 obtain ⟨vs,hf⟩:=hf
 obtain ⟨mA,hn,r⟩:=I1.hok dx _ hd1
 obtain ⟨u,hu,ru⟩:=RelO.some_of (v:=v) (o:=mA fld) (by rw [← hl];exact r fld)
 have hx:=(I1.pin _ (List.mem_append_left _ hp)).1
 obtain ⟨h1,g1,d1,t1,o1⟩:=s1
 exact zo0 I1.kIn C hx hc hf hd hn hu (PySem.W.handedOut_of (zkY ru)) ⟨v,H1,I1.tok _,ru,q⟩
end
section
variable {X:Cx} {C:Addr} {i:Nat} {n y:Str} {np pos:Pos} {b₀:Stmt} {suite:List Stmt} {rest:List ExceptHandler} {ts th:TH}
theorem zpA (t:Top1 X) (c:XC X.K C) (hg:Gl X y) (hm:X.mg y=some (.ref C)) (hN:X.N.Nodup) (hi:X.N[i]? = some n) (hl:X.env.scope.names.lookup n=some .local) (hs:∀ x oe,(∃ vs,oe.data = .fields vs)→PSs (X.zbu x oe) (b₀ :: suite) (ts x oe.cls oe.dict)) (hr:PH X rest th)
  (hdb:(y == ("__debug__" : Str))=false:=by decide):PH X (.ExceptHandler (some (.Name y np)) (some n) (b₀ :: suite) pos :: rest) (tH X.K C i ts th):=by
 intro s σ H D x cls dx I ex h
 obtain ⟨E,b,rfl,sb,h⟩:=h
 obtain ⟨oe,vs,hc,hdx,hd,he,hp⟩:=ex.pin I t
 have Ic:=I.zbu (x:=x) (oe:=oe) ⟨he,hp⟩
 refine wpAny_handleBy_cons (codeAny_handlers_test (zdN (X:=X.zbu x oe) (s:=s) Ic hg hm ?_ hdb)) (by intro q;cases q)
 obtain ⟨hh,g,d,tk,os⟩:=s
 refine zpw c I.kIn he hc sb ?_
 cases b with
 | false =>
  exact hr _ σ H D x _ dx I ex (by simpa using h)
 | true =>
  rw [if_pos rfl] at h
  refine codeAny_handlers_suite_as (zd3 I t ex fun h1 I1 ex1=>?_)
  obtain ⟨oe1,vs1,hc1,hdx1,hd1,he1,hp1⟩:=ex1.pin I1 t
  have Ic1:=I1.zbu (x:=x) (oe:=oe1) ⟨he1,hp1⟩
  refine zdE (X:=X.zbu x oe1) (v := .ref x) Ic1 hN hi (.inl hl) rfl (fun s2 I2=>?_) (.inr hl)
  rw [← hc1,← hdx1] at h
  refine wpAny_mono (hs x oe1 ⟨vs1,hd1⟩ [] s2 (σ.set i (some (.ref x))) H (D.drop i) I2 h) (fun f s3 q=>?_) fun _ _ z=>False.elim z
  cases f with
  | next =>
   obtain ⟨σ',H',I',q⟩:=q
   exact zgo (I'.uncaught I.ok) hN hi hl fun s' I''=>⟨_,H',I'',q⟩
  | brk =>
   obtain ⟨σ',H',I',q⟩:=q
   exact zgo (I'.uncaught I.ok) hN hi hl fun s' I''=>⟨_,H',I'',q⟩
  | cont =>
   obtain ⟨σ',H',I',q⟩:=q
   exact zgo (I'.uncaught I.ok) hN hi hl fun s' I''=>⟨_,H',I'',q⟩
  | ret u =>
   obtain ⟨v,σ',H',I',r,q⟩:=q
   exact zgo (I'.uncaught I.ok) hN hi hl fun s' I''=>⟨v,_,H',I'',r,q⟩
end
end L2
namespace V2
open PySem PySem.Spec PyProof.Rows L2
def OwnF (K:PySem.W.Frag) (mg:Str→Option Value) (x fld:Str):Prop:=∃ C fI R qual st fd rk sf pa,OwnI K C fI fld∧zmQ K R∧Fun K "__init__" qual st fI fd∧zmh st fld rk sf pa∧Binds K fd [sf,pa] []∧mg rk=some (.ref R)∧mg x=some (.ref C)∧PySem.W.nsIn K mainGlobals x=some (some (.ref C))
section
variable {K:PySem.W.Frag} {G H:Hp} {ι:List Addr} {Ω:Sto} {d:Addr}
theorem Wd.neG (w:Wd K G ι Ω H) (hd:H d=none) {a:Addr} {o:HO} (h:G a=some o):a ≠ d:=fun z=>by
 have:=w.sub _ _ h
 rw [z,hd] at this;cases this
theorem Wd.zp1 (w:Wd K G ι Ω H) (hd:H d=none) (o:HO):Ext G ι (upd G d o) ι:=⟨fun a u h=>by rw [zaj (w.neG hd h)];exact h,fun _ _ h=>h⟩
theorem Wd.up (w:Wd K G ι Ω H) (hd:H d=none) (o:HO):Wd K (upd G d o) ι Ω (upd H d o):=w.new hd o
end
section
variable {X:Cx} {W:WX} {x fld:Str} {e:Expr} {np cpos pos:Pos} {fs:Ev→Mo (List A)}
@[simp] def zjZ (x fld:Str) (f:Ev→Mo (List A)):MS:=fun ρ=>sM (f ρ) ρ fun as Ω=>match as with
 | [.int i]=>if i.natAbs.log2 < 1920 then some (.exc ⟨x,[(fld, .int i)]⟩,ρ,Ω) else none
 | _=>none
theorem zkm {k:Nat} (T:zfT X W) (hc:X.calm=true) (O:OwnF X.K X.mg x fld) (hr:Room (k + 2) X.A) (hg:Gl X x) (ha:VA X W [e] fs)
  (hdb:(x == ("__debug__" : Str))=false:=by decide) (he:starEach [e] X.env=(false,eval e X.env) :: starEach [] X.env:=by rfl) (hpl:(backTo cpos (starEach [e] X.env)).any (·.1)=false:=by rfl) :
  VS X W (.Raise (some (.Call (.Name x np) [e] [] cpos)) none pos) (zjZ x fld fs):=by
 obtain ⟨C,fI,R,qual,st,fd,rk,sf,pa,O,B,F,S,hb,hmR,hm,hK⟩:=O
 obtain ⟨t,p,s⟩:=ha
 refine ⟨_,zkn T hc O B F S hb hmR hr hg hm p hdb he hpl,fun G ι Ω H σ ρ D w r h=>?_⟩
 refine s G ι Ω H σ ρ _ w r (zb9.sM h r fun as Ω1 vs H1 G1 ι1 x1 w1 d1 h1=>?_)
 split at h1
 ·rename_i i
  split at h1
  ·rename_i hl
   obtain ⟨v,r',rfl,dv,dr⟩:=d1.zbW
   rw [zbm] at dr;subst dr
   simp only [Den] at dv;subst dv
   exact ⟨i,rfl,hl,fun dx hdx=>h1 σ _ _ ι1 (w1.zp1 hdx _) (w1.up hdx _) (r.ext (x1.trans (w1.zp1 hdx _))) _ _ ⟨⟨C,hK,rfl⟩, .inr ⟨dx,fld,i,rfl,rfl,zaG⟩⟩⟩
  ·exact False.elim h1
 ·exact False.elim h1
end
def exA (p d:Addr) (e:Exc):A:=match e.fs with
 | [(f, .int i)] => .exn p d f i
 | _ => .adr p
def zlF (e:Exc) (d:Addr) (dx:Option Addr):Prop:=(e.fs=[]∧dx=none)∨(e.fs ≠ []∧dx=some d)
open Classical in
noncomputable def zfr (i:Nat) (sub:Str→Bool) (fb:MS) (fh:Addr→Addr→Exc→MS):MS:=fun ρ Ω=>match fb ρ Ω with
 | some (.exc e,ρ1,Ω1)=>if sub e.cls=true then (if hr:∃ r,∀ p d,zlC i (fh p d e (ρ1.set i (some (exA p d e))) Ω1)=some r then some (Classical.choose hr) else none) else none
 | r=>r
theorem zmX {i:Nat} {sub:Str→Bool} {fb:MS} {fh:Addr→Addr→Exc→MS} {ρ ρ1:Ev} {Ω Ω1:Sto} {e:Exc} {r:Out × Ev × Sto} (h:fb ρ Ω=some (.exc e,ρ1,Ω1)) (hs:sub e.cls=true) (hr:∀ p d,zlC i (fh p d e (ρ1.set i (some (exA p d e))) Ω1)=some r):zfr i sub fb fh ρ Ω=some r:=by
 have hx:∃ r,∀ p d,zlC i (fh p d e (ρ1.set i (some (exA p d e))) Ω1)=some r:=⟨r,hr⟩
 have e1:=Classical.choose_spec hx 0 0
 rw [hr 0 0] at e1
 simp only [zfr,h,hs,if_true]
 rw [dif_pos hx,← e1]
theorem zme {K:PySem.W.Frag} {W:WX} {C:Addr} {i:Nat} {sub:Str→Bool} {fb:MS} {fh:Addr→Addr→Exc→MS}
  (hsub:∀ n E,sub n=true→PySem.W.nsIn K mainGlobals n=some (some (.ref E))→PySem.W.subIn K (.ref E) (.ref C)=some true) :
  SimS K W (tTry (fun W=>zjx K W fb) (tH K C i (fun x cls dx D σ H=>∃ (e:Exc) (d:Addr),(∃ E,PySem.W.nsIn K mainGlobals e.cls=some (some (.ref E))∧cls = .ref E)∧zlF e d dx∧zjx K noW (fh x d e) D σ H) tNoH)) (zfr i sub fb fh):=by
 intro G ι Ω H σ ρ D w r h
 refine ⟨G,ι,Ω,ρ,w,r,?_⟩
 unfold zfr at h
 revert h
 generalize fb ρ Ω=q
 intro h
 match q,h with
 | none,h=>exact h
 | some (.nx,ρ1,Ω1),h=>exact h
 | some (.bk,ρ1,Ω1),h=>exact h
 | some (.ct,ρ1,Ω1),h=>exact h
 | some (.ret a,ρ1,Ω1),h=>exact h
 | some (.exc e,ρ1,Ω1),h =>
  simp only at h
  split at h
  ·rename_i hs
   split at h
   ·rename_i hr
    intro σ' H' G' ι' x' w' r' cls dx hx x hxn
    obtain ⟨⟨E,hE,rfl⟩,hfs⟩:=hx
    refine ⟨E,true,rfl,hsub _ E hs hE,?_⟩
    rw [if_pos rfl]
    have hd:∃ d,zlF e d dx∧Den K G' ι' (.ref x) (exA x d e):=by
     rcases hfs with ⟨h1,rfl⟩ | ⟨d,f,i',rfl,h1,h2⟩
     ·exact ⟨0, .inl ⟨h1,rfl⟩,by unfold exA;rw [h1];simp only [Den]⟩
     ·exact ⟨d, .inr ⟨by rw [h1];simp,rfl⟩,by unfold exA;rw [h1];simp only [Den];exact ⟨trivial,h2⟩⟩
    obtain ⟨d,hd1,hd2⟩:=hd
    refine ⟨e,d,⟨E,hE,rfl⟩,hd1,G',ι',Ω1,ρ1.set i (some (exA x d e)),w',r'.set i hd2,?_⟩
    have hq:=Classical.choose_spec hr x d
    revert hq h
    generalize Classical.choose hr=rr
    generalize fh x d e (ρ1.set i (some (exA x d e))) Ω1=q2
    intro h hq
    match q2,hq with
    | some (.nx,ρ2,Ω2),hq=>cases hq;exact fun σ2 H2 G2 ι2 x2 w2 r2=>h (σ2.set i none) H2 G2 ι2 (x'.trans x2) w2 (r2.unset i none)
    | some (.bk,ρ2,Ω2),hq=>cases hq;exact fun σ2 H2 G2 ι2 x2 w2 r2=>h (σ2.set i none) H2 G2 ι2 (x'.trans x2) w2 (r2.unset i none)
    | some (.ct,ρ2,Ω2),hq=>cases hq;exact fun σ2 H2 G2 ι2 x2 w2 r2=>h (σ2.set i none) H2 G2 ι2 (x'.trans x2) w2 (r2.unset i none)
    | some (.ret a,ρ2,Ω2),hq=>cases hq;exact fun σ2 H2 G2 ι2 x2 w2 r2=>h (σ2.set i none) H2 G2 ι2 (x'.trans x2) w2 (r2.unset i none)
   ·exact False.elim h
  ·exact False.elim h
structure Cau (K:PySem.W.Frag) (oe:Obj) (d:Addr) (e:Exc):Prop where
 dat:∃ vs,oe.data = .fields vs
 cls:∃ E,PySem.W.nsIn K mainGlobals e.cls=some (some (.ref E))∧oe.cls = .ref E
 dic:zlF e d oe.dict
theorem zmo {X:Cx} {W:WX} {C:Addr} {i:Nat} {n y:Str} {np pos hpos:Pos} {body:List Stmt} {b₀:Stmt} {suite:List Stmt} {sub:Str→Bool} {fb:MS} {fh:Addr→Addr→Exc→MS} (t:Top1 X) (hx:X.ex=[]) (c:XC X.K C) (hg:Gl X y) (hm:X.mg y=some (.ref C)) (hN:X.N.Nodup) (hi:X.N[i]? = some n) (hl:X.env.scope.names.lookup n=some .local)
  (hsub:∀ n E,sub n=true→PySem.W.nsIn X.K mainGlobals n=some (some (.ref E))→PySem.W.subIn X.K (.ref E) (.ref C)=some true)
  (hb:∀ W,VSs0 (X.wish (XE X W)) W body fb) (hh:∀ (p:Addr) (oe:Obj) (d:Addr) (e:Exc),Cau X.K oe d e→VSs (X.zbu p oe) noW (b₀ :: suite) (fh p d e))
  (hdb:(y == ("__debug__" : Str))=false:=by decide):VS0 X W (.Try body [.ExceptHandler (some (.Name y np)) (some n) (b₀ :: suite) hpos] [] [] pos) (zfr i sub fb fh):=by
 refine ⟨_,zpo t hx (tb:=fun W=>zjx X.K W fb) (fun W=>(hb W).can) (zpA t c hg hm hN hi hl (ts:=fun x cls dx D σ H=>∃ (e:Exc) (d:Addr),(∃ E,PySem.W.nsIn X.K mainGlobals e.cls=some (some (.ref E))∧cls = .ref E)∧zlF e d dx∧zjx X.K noW (fh x d e) D σ H) (fun x oe hf=>?_) zp7 hdb),zme hsub⟩
 intro pins sh σ H D I ⟨e,d,he,hd,q⟩
 exact (hh x oe d e ⟨hf,he,hd⟩).can pins sh σ H D I q
theorem znq {X:Cx} {W:WX} {i:Nat} {n y:Str} {np pos hpos:Pos} {body:List Stmt} {b₀:Stmt} {suite:List Stmt} {rs ns:List Str} {fb:MS} {fh:Addr→Addr→Exc→MS} (t:Top1 X) (hx:X.ex=[]) (c:ClsN X.K X.mg y) (hg:Gl X y) (hT:XTab X.K rs ns) (hN:X.N.Nodup) (hi:X.N[i]? = some n) (hl:X.env.scope.names.lookup n=some .local)
  (hb:∀ W,VSs0 (X.wish (XE X W)) W body fb) (hh:∀ (p:Addr) (oe:Obj) (d:Addr) (e:Exc),Cau X.K oe d e→VSs (X.zbu p oe) noW (b₀ :: suite) (fh p d e))
  (hdb:(y == ("__debug__" : Str))=false:=by decide):VS0 X W (.Try body [.ExceptHandler (some (.Name y np)) (some n) (b₀ :: suite) hpos] [] [] pos) (zfr i (fun z=>xtab rs ns z y == some true) fb fh):=by
 obtain ⟨C,h0,h1,h2⟩:=c
 refine zmo t hx h0 hg h1 hN hi hl (fun z E q hz=>?_) hb hh hdb
 have q:xtab rs ns z y=some true:=by simpa using q
 unfold xtab at q
 split at q
 ·rename_i hm
  rw [← q]
  exact hT.sub _ hm.1 _ hm.2 _ _ hz h2
 ·cases q
def exP:A→Option Addr
 | .adr q=>some q
 | .exn q _ _ _=>some q
 | _=>none
@[simp] def zkW (p:Addr) (tb:Str→Option Bool) (tt:String→Option Bool) (as:List A):Mo A:=fun Ω=>match as with
 | [x,a]=>(match exP x with
  | some q=>gIsX p tb tt [.adr q,a] Ω
  | none=>none)
 | _=>none
theorem zlp {X:Cx} {W:WX} {rs ns:List Str} {p:Addr} {oe:Obj} {n:Str} (hp:(p,oe) ∈ X.pn) (hT:XTab X.K rs ns) (he:∃ E,PySem.W.nsIn X.K mainGlobals n=some (some (.ref E))∧oe.cls = .ref E):zcD X W (.builtin "isinstance") (zkW p (xtab rs ns n) (xtt rs n)):=by
 obtain ⟨t,h1,h2⟩:=zqI (W:=W) hp hT he
 refine ⟨t,h1,fun G ι Ω H σ xs as Q w d h=>?_⟩
 unfold zkW at h
 split at h
 ·rename_i x a
  split at h
  ·rename_i q hq
   refine h2 G ι Ω H σ xs [.adr q,a] Q w ?_ h
   obtain ⟨v1,v2,rfl,d1,d2⟩:=den2 d
   refine .cons ?_ (.cons d2 .nil)
   cases x with
   | adr q'=>cases hq;exact d1
   | exn q' d' f i=>cases hq;simp only [Den] at d1 ⊢;exact d1.1
   | _=>cases hq
  ·exact False.elim h
 ·exact False.elim h
def XFld (K:PySem.W.Frag) (rs:List Str) (fld:Str):Prop:=∀ n ∈ rs,∀ D,PySem.W.nsIn K mainGlobals n=some (some (.ref D))→XAt K D fld
@[simp] def gXAt (p d:Addr) (e:Exc) (rs:List Str) (fld:Str) (f:Ev→Mo A):Ev→Mo A:=fun ρ=>mb (f ρ) fun a=>match a with
 | .exn q d' g i=>if q=p∧d'=d∧e.fs ≠ []∧g=fld∧e.cls ∈ rs then ret (.int i) else stuck
 | _=>stuck
theorem zo6 {X:Cx} {W:WX} {o:Expr} {f:Ev→Mo A} {p d:Addr} {oe:Obj} {e:Exc} {rs:List Str} {fld:Str} {pos:Pos} (ho:VE X W o f) (hp:(p,oe) ∈ X.pn) (c:Cau X.K oe d e) (hF:XFld X.K rs fld)
  (hb:attributeBase o fld X.env (eval o X.env)=eval o X.env:=by rfl):VE X W (.Attribute o fld pos) (gXAt p d e rs fld f):=by
 obtain ⟨t,h1,h2⟩:=ho
 obtain ⟨E,hE,hcE⟩:=c.cls
 by_cases hok:e.fs ≠ []∧e.cls ∈ rs
 ·have hd:oe.dict=some d:=by
   rcases c.dic with ⟨z,_⟩ | ⟨_,z⟩
   ·exact absurd z hok.1
   ·exact z
  refine ⟨_,zpm h1 hp hcE c.dat hd (hF _ hok.2 _ hE) hb,fun G ι Ω H σ ρ Q w r h=>h2 G ι Ω H σ ρ _ w r (Post.mb h fun a Ω1 v H1 G1 ι1 x1 w1 d1 hq=>?_)⟩
  split at hq
  ·rename_i q d' g i
   split at hq
   ·rename_i hz
    obtain ⟨rfl,rfl,_,rfl,_⟩:=hz
    simp only [Den] at d1
    exact ⟨d1.1,_, .int i,w1.sub _ _ d1.2,by rw [List.lookup_cons_self],hq _ H1 G1 ι1 (Ext.refl _ _) w1 (by simp only [Den])⟩
   ·exact False.elim hq
  ·exact False.elim hq
 ·refine ⟨fun σ H Q=>t σ H fun _ _=>False,fun pins s σ H Q I h=>?_,fun G ι Ω H σ ρ Q w r h=>h2 G ι Ω H σ ρ _ w r (Post.mb h fun a Ω1 v H1 G1 ι1 x1 w1 d1 hq=>?_)⟩
  ·exact zkb hb (thn (h1 pins s σ H _ I h) fun u s1 ⟨v0,H1,I1,rx,e0⟩=>e0.elim)
  ·split at hq
   ·split at hq
    ·rename_i hz
     exact hok ⟨hz.2.2.1,hz.2.2.2.2⟩
    ·exact hq
   ·exact hq
end V2
namespace M
open PySem V2
end M
namespace V2
open PySem PySem.Spec PyProof.Rows L2
section
variable {X:Cx} {W:WX} {pos:Pos}
end
end V2
namespace V2
open PySem PySem.Spec PyProof.Rows L2
section
variable {X:Cx} {W:WX} {a b c d:Expr} {ta tb tc td:TE} {fa fb fc fd:Ev→Mo A} {pos:Pos}
def zpL (_ j:Int):Prop:=0 < j∧j < 1152921504606846976
instance (i j:Int):Decidable (zpL i j):=by unfold zpL;infer_instance
end
end V2
namespace M
open PySem V2
end M
namespace PySem
section
variable {prog:Program} {w:World} {A:Around} {E:Value→Shared→Prop} {s:Shared}
end
set_option maxRecDepth 100000
section
variable {prog:Program} {w:World} {A:Around} {E:Value→Shared→Prop} {s:Shared}
end
end PySem
namespace V2
open PySem PySem.Spec PyProof.Rows L2
section
variable {X:Cx} {W:WX}
end
section
variable {K:PySem.W.Frag}
end
section
variable {X:Cx} {W:WX}
end
end V2
namespace V2
open PySem PySem.Spec PyProof.Rows L2
section
variable {X:Cx} {W:WX}
end
end V2
namespace V2
open PySem PySem.Spec PyProof.Rows L2
section
variable {X:Cx} {W:WX} {pos:Pos}
end
end V2
namespace M
open PySem V2
end M
namespace M
open PySem V2
end M
namespace L2
open PySem PySem.Spec PyProof.Rows
def zpi (p:Addr) (oe:Obj) (outer:List Env) (s:Shared) (H:Hp):Prop:=s.heap.get? p=some oe∧H p=none∧p ∉ frs outer∧∀ v,oe.data ≠ .cell v
def RunP (P:Program) (w:World) (K:PySem.W.Frag) (mg:Str→Option Value) (base:Heap) (k:Nat) (f:Addr) (fd:FuncData) (ps:List Str) (p:Addr) (oe:Obj) (sp:Sp):Prop :=
 ∀ (A:Around) (outer:List Env) (s:Shared) (H:Hp) (args:Args) (us:List Value) (vs:List V) (Q:VK) (E:XK),Room k A→Env0 P w K mg base A outer s H→BindsTo s fd args (ps.zip us)→Vals vs us→zpi p oe outer s H→sp vs H Q E →
  codeAny (model P w) (A.mark (some (.ref p))) (.call (.ref f) args) (CR CX0 outer P w H s Q E) s
section
variable {P:Program} {w:World} {K:PySem.W.Frag} {mg:Str→Option Value} {base:Heap} {p:Addr} {oe:Obj}
set_option maxRecDepth 100000 in
theorem zpl {k:Nat} {f:Addr} {name qual:Str} {params:Arguments} {body:List Stmt} {scope:Scope} {dV kV doc pm cdv ct oc:Value} {an od:Option Addr}
  {osl:Array (Option Value)} {N ps:List Str} {sp:Sp} (lk:K.lookup f=some ⟨oc,od, .func (PySem.W.fnOf name qual params body scope dV kV doc pm an cdv ct),osl⟩) (hcd:PySem.W.codeIn K cdv qual=true) (S:zat N ps scope)
  (len:∀ vs H Q E,sp vs H Q E→vs.length=ps.length)
  (hbody:∀ (A:Around) (outer:List Env) (s:Shared) (H:Hp) (vs:List V) (Q:VK) (E:XK),Room k (A.deeper (envOfC qual scope s.heap.objs.size f cdv))→sp vs H Q E →
   ∃ t,PSs ((cxOf CX0 P w K mg base N qual scope f cdv A outer s H E).zbu p oe) body t∧t { nx:=fun _ H'=>Q .non H',rt:=Q } (start N vs) H) :
  RunP P w K mg base (k + 1) f (PySem.W.fnOf name qual params body scope dV kV doc pm an cdv ct) ps p oe sp:=by
 intro A outer s H args us vs Q E hr e0 hb r pin hsp
 have hl:=len _ _ _ _ hsp
 have KX:K.In s.heap:=e0.mod.kin.keeps fun b o e=>(e0.bs b o e).1
 have lim:s.heap.NoLimit:=e0.mod.nolimit.keeps fun b o e=>(e0.bs b o e).1
 have hkind:∀ y ∈ ps.zip us,scope.names.lookup y.1=some .local∨(scope.names.lookup y.1=some .cell∧((cellsFrom (s.heap.objs.size + 1) scope.names []).lookup y.1).isSome=true):=fun ⟨n,v⟩ hy=>by
  rcases S.par n (List.of_mem_zip hy).1 with q | q
  ·exact .inl q
  ·exact .inr ⟨q,PySem.W.cellsFrom_some _ _ _ (.inl q)⟩
 refine codeAny_call_function (A:=A.mark (some (.ref p))) hr.depth (KX _ _ lk) rfl S.co S.gen rfl (PySem.W.codeRec_of KX hcd) (hb _ _ _ _ ?_)
 refine wpAny_newFunctionEnv_cells S.kind hkind fun env he s1 x=>?_
 subst he
 refine ⟨lim.keeps x.toInCall.keep,codeAny_func ?_⟩
 obtain ⟨t,ht,hq⟩:=hbody A outer s H vs Q E (hr.deeper _) hsp
 have I0:Inv (cxOf CX0 P w K mg base N qual scope f cdv A outer s H E) [] (start N vs) H s1:=zd2 S hr.hd e0 hl r x
 obtain ⟨p1,p2,p3,p4⟩:=pin
 have hlt:p < s.heap.objs.size:=by
  rcases Nat.lt_or_ge p s.heap.objs.size with h | h
  ·exact h
  ·exfalso
   first | (rw [Heap.get?_none_of_ge h] at p1;cases p1) | (simp [Heap.get?,h] at p1) | (unfold Heap.get? at p1;simp [h] at p1)
 have I:Inv ((cxOf CX0 P w K mg base N qual scope f cdv A outer s H E).zbu p oe) [] (start N vs) H s1:=I0.zbu ⟨x.toInCall.keep _ _ p1,p2,fun z=>absurd hlt (by rw [z];exact Nat.lt_irrefl _),p3,p4⟩
 refine wpAny_mono (ht [] s1 (start N vs) H _ I hq) (fun fl s' hs=>?_) fun e s' hs=>hs.elim
 have fin:∀ {σ':St} {H':Hp} {v:V} {u:Value},Inv ((cxOf CX0 P w K mg base N qual scope f cdv A outer s H E).zbu p oe) [] σ' H' s'→RelV v u→Q v H'→CE outer P w H s Q u s' :=
  fun {σ' H' v u} J rv q=>⟨v,H',J.os,J.bare,J.base,J.hok,rv,q⟩
 cases fl with
 | ret u =>
  obtain ⟨v,σ',H',J,rv,q⟩:=hs
  exact fin J rv q
 | next =>
  obtain ⟨σ',H',J,q⟩:=hs
  exact fin (v:=V.non) (u:=Value.none) J rfl q
 | brk =>
  obtain ⟨_,_,_,q⟩:=hs
  exact False.elim q
 | cont =>
  obtain ⟨_,_,_,q⟩:=hs
  exact False.elim q
end
end L2
namespace V2
open PySem PySem.Spec PyProof.Rows L2
def DefP (P:Program) (w:World) (K:PySem.W.Frag) (mg:Str→Option Value) (base:Heap) (x:Str) (k:Nat) (ps:List Str) (p:Addr) (oe:Obj) (F:List A→Mo A):Prop :=
 ∃ f fd,RunP P w K mg base k f fd ps p oe (fun vs H Q _=>spV K ps.length F vs H Q fun _ _ _=>False)∧mg x=some (.ref f)∧PySem.W.keepIn K (.ref f)=true∧Binds K fd ps []
theorem DefP.of {P:Program} {w:World} {K:PySem.W.Frag} {mg:Str→Option Value} {base:Heap} {p:Addr} {oe:Obj} {x:Str} {st:Stmt} {N ps:List Str} {k:Nat} {b:MS} (h:HasFn K mg x st) (S:zat N ps (zab st))
  (bind:∀ (kV doc pm:Value) (an:Option Addr) (cdv ct:Value) (us:List Value),us.length=ps.length→bindArgs (PySem.W.fnOf x x (zau st) (zai st) (zab st) .none kV doc pm an cdv ct) ⟨us,[]⟩ = pure (ps.zip us))
  (hbody:∀ (f:Addr) (cdv:Value) (A:Around) (outer:List Env) (s:Shared) (H:Hp) (E:XK),Room k (A.deeper (envOfC x (zab st) s.heap.objs.size f cdv)) →
   VSs ((cxOf CX0 P w K mg base N x (zab st) f cdv A outer s H E).zbu p oe) noW (zai st) b):DefP P w K mg base x (k + 1) ps p oe (fnF N.length b):=by
 obtain ⟨f,fd,hm,F⟩:=h.ex
 refine ⟨f,fd,?_,hm,F.kp,F.binds bind⟩
 obtain ⟨oc,od,kV,doc,pm,an,cdv,ct,osl,rfl,lk,hcd⟩:=F.ex
 refine zpl lk hcd S (fun vs H Q E h=>h.1) fun A outer s H vs Q E hr hsp=>?_
 obtain ⟨t,p,q⟩:=hbody f cdv A outer s H E hr
 exact ⟨t,p,zgR (E:=fun _ _ _=>False) q hsp⟩
section
variable {X:Cx} {W:WX} {x:Str} {e:Expr} {es:List Expr} {np pos:Pos} {fs:Ev→Mo (List A)} {p:Addr} {oe:Obj}
theorem zm2 {k:Nat} {ps:List Str} {F:List A→Mo A} (D:DefP X.prog X.w X.K X.mg X.base x k ps p oe F) (hr:Room k X.A) (hg:Gl (X.zbu p oe) x) (ha:VA (X.zbu p oe) W (e :: es) fs)
  (hdb:(x == ("__debug__" : Str))=false:=by decide) (he:starEach (e :: es) X.env=(false,eval e X.env) :: starEach es X.env:=by rfl) (hpl:(backTo pos (starEach es X.env)).any (·.1)=false:=by rfl):VE (X.zbu p oe) W (.Call (.Name x np) (e :: es) [] pos) (vCl (noX (zaA ps.length F)) fs):=by
 obtain ⟨f,fd,R,hm,hk,hb⟩:=D
 obtain ⟨t,p1,s1⟩:=ha
 refine ⟨zm6 (fun vs H Q _=>spV X.K ps.length F vs H Q fun _ _ _=>False) [] E0 t,?_,fun G ι Ω H σ ρ Q w r h=>?_⟩
 ·intro pins s σ H Q I h
  refine wpAny_Call_Name_kw (zdN I hg hm ?_ hdb)
  refine PySem.W.callWith_K (h₀:=X.base) I.ok.mod.kin hk (thn (p1 pos pins s σ H _ I h) fun us s1 ⟨vs,H1,I1,r,q⟩=>⟨I1.kIn,?_⟩) he hpl
  have q:spV X.K ps.length F vs H1 Q fun _ _ _=>False:=by
   have q:=q
   simp only [List.append_nil] at q
   exact q
  have hl:us.length=ps.length:=by rw [← r.length];exact q.1
  have hb':=hb s1 us I1.kIn (by rw [List.append_nil];exact hl)
  rw [List.append_nil] at hb'
  have pin:=I1.pin (p,oe) (List.mem_append_left _ (List.mem_append_right _ (List.mem_singleton_self _)))
  have e0:=I1.env0
  have e1:Env0 X.prog X.w X.K X.mg X.base X.A X.stack s1 H1:=⟨e0.frames,e0.mod,e0.bs,e0.bsz,e0.funs,e0.frf,e0.hok,e0.bare⟩
  have pn:zpi p oe X.stack s1 H1:=by
   refine ⟨pin.1,pin.2.1,fun z=>?_,pin.2.2.2.2⟩
   rcases I1.ok.stk with q | ⟨q,q2⟩
   ·rw [show X.stack=X.outer from q] at z;exact pin.2.2.2.1 z
   ·rw [show X.stack=X.env :: X.outer from q] at z
    have q2:X.env.frame=some X.env.locals:=q2
    unfold frs at z
    rw [List.filterMap_cons,q2] at z
    rcases List.mem_cons.mp z with y | y
    ·exact pin.2.2.1 y
    ·exact pin.2.2.2.1 y
  refine wpAny_call (codeAny_mono (R X.A X.stack s1 H1 ⟨us,[]⟩ us vs Q E0 hr e1 hb' r pn q) fun r s' hq=>?_)
  cases r with
  | error ev=>exact False.elim hq
  | ok fl =>
   cases fl with
   | ret u=>exact I1.after hq
   | next=>exact False.elim hq
   | brk=>exact False.elim hq
   | cont=>exact False.elim hq
 ·refine s1 G ι Ω H σ ρ _ w r (Post.mb h fun as Ω1 vs H1 G1 ι1 x1 w1 d1 h1=>?_)
  unfold noX zaA at h1
  rw [List.append_nil]
  by_cases hl:as.length=ps.length
  ·rw [if_pos hl] at h1
   refine ⟨by rw [d1.length];exact hl,G1,ι1,Ω1,as,w1,d1,?_⟩
   revert h1
   generalize F as Ω1=q2
   intro h1
   match q2,h1 with
   | some (.ok a,Ω2),h1=>exact h1
  ·rw [if_neg hl] at h1
   exact False.elim h1
end
end V2
namespace V2
open PySem PySem.Spec PyProof.Rows L2
end V2
namespace M
open PySem V2
end M
namespace V2
open PySem PySem.Spec PyProof.Rows L2
end V2
namespace V2
open PySem PySem.Spec PyProof.Rows L2
end V2
namespace V2
open PySem PySem.Spec PyProof.Rows L2
section
variable {X:Cx} {W:WX} {st:List Stmt} {g:MS}
end
end V2
namespace M
open PySem V2
end M
namespace M
open PySem V2
end M
namespace V2
open PySem PySem.Spec PyProof.Rows L2
def putD {α:Type} (f:Str) (v:α):List (Str × α)→List (Str × α)
 | []=>[(f,v)]
 | (g,x) :: r=>if g=f then (g,v) :: r else (g,x) :: putD f v r
@[simp] def Fd.cell:Fd→Option Cell
 | .lst ds=>some (.lst ds)
 | .dct kvs=>some (.dct kvs)
 | .val _=>none
theorem zj0 {α:Type} {f:Str}:∀ {l:List (Str × α)} {x:α},l.lookup f=some x→∃ i,l[i]? = some (f,x)∧∀ y,putD f y l=l.set i (f,y)
 | [],_,h=>by simp at h
 | (g,z) :: r,x,h=>by
  by_cases e:g=f
  ·subst e
   simp [List.lookup] at h
   subst h
   exact ⟨0,rfl,fun y=>by simp [putD]⟩
  ·have hb:(f == g)=false:=beq_eq_false_iff_ne.mpr (Ne.symm e)
   simp only [List.lookup,hb] at h
   obtain ⟨i,h1,h2⟩:=zj0 h
   exact ⟨i + 1,by simpa using h1,fun y=>by simp [putD,e,h2 y]⟩
section
variable {K:PySem.W.Frag} {G H:Hp} {ι:List Addr} {Ω:Sto}
theorem zcu:∀ {ws:List (Str × V)} {fs:List (Str × Fd)},zdI K G ι H ws fs↔ws.length=fs.length∧∀ (i:Nat) (h:Str) (v:V) (g:Str) (fd:Fd),ws[i]? = some (h,v)→fs[i]? = some (g,fd)→h=g∧FdOk K G ι H v fd
 | [],[]=>⟨fun _=>⟨rfl,fun i h v g fd q=>by simp at q⟩,fun _=>trivial⟩
 | [],_ :: _=>⟨fun h=>h.elim,fun h=>by simp at h⟩
 | _ :: _,[]=>⟨fun h=>h.elim,fun h=>by simp at h⟩
 | (f,v) :: ws,(g,d) :: fs=>by
  constructor
  ·rintro ⟨h1,h2,h3⟩
   obtain ⟨q1,q2⟩:=zcu.mp h3
   refine ⟨by simp [q1],fun i h v' g' fd a b=>?_⟩
   cases i with
   | zero=>simp at a b;obtain ⟨rfl,rfl⟩:=a;obtain ⟨rfl,rfl⟩:=b;exact ⟨h1,h2⟩
   | succ i=>exact q2 i h v' g' fd (by simpa using a) (by simpa using b)
  ·rintro ⟨q1,q2⟩
   obtain ⟨h1,h2⟩:=q2 0 f v g d rfl rfl
   exact ⟨h1,h2,zcu.mpr ⟨by simpa using q1,fun i h v' g' fd a b=>q2 (i + 1) h v' g' fd (by simpa using a) (by simpa using b)⟩⟩
theorem zdI.len {ws:List (Str × V)} {fs:List (Str × Fd)} (h:zdI K G ι H ws fs):ws.length=fs.length:=(zcu.mp h).1
theorem FdOk.ownC {v:V} {fd:Fd} {c:Cell} (h:FdOk K G ι H v fd) (hc:fd.cell=some c):∃ b,v = .ref b∧b ∉ ι∧(∃ o,H b=some o)∧zc7 K G ι H b c:=by
 cases fd with
 | val a=>cases hc
 | lst ds=>cases hc;obtain ⟨b,xs,h1,h2,h3,h4,h5⟩:=h;exact ⟨b,h1,h3,⟨_,h4⟩,h2,xs,h4,h5⟩
 | dct kvs=>cases hc;obtain ⟨b,ws,h1,h2,h3,h4,h5,h6⟩:=h;exact ⟨b,h1,h3,⟨_,h4⟩,h2,ws,h4,h5,h6⟩
theorem Fd.zlP {fd:Fd} {c:Cell} (hc:fd.cell=some c):fd.own=true:=by cases fd <;> first | rfl | cases hc
theorem Fd.zjB {fd:Fd} {c:Cell} (hc:fd.cell=some c):c.noOwn=true:=by cases fd <;> cases hc <;> rfl
theorem FdOk.lend {b:Addr} {v:V} {fd:Fd} (h:FdOk K G ι H v fd) (hb:fd.own=true→v ≠ .ref b):FdOk K G (ι ++ [b]) H v fd:=by
 cases fd with
 | val a=>exact Den.ext (Ext.cell b) h
 | lst ds =>
  obtain ⟨b',xs,h1,h2,h3,h4,h5⟩:=h
  exact ⟨b',xs,h1,h2,by simp;exact ⟨h3,fun e=>hb rfl (by rw [h1,e])⟩,h4,h5.ext (Ext.cell b)⟩
 | dct kvs =>
  obtain ⟨b',ws,h1,h2,h3,h4,h5,h6⟩:=h
  exact ⟨b',ws,h1,h2,by simp;exact ⟨h3,fun e=>hb rfl (by rw [h1,e])⟩,h4,h5,h6.ext (Ext.cell b)⟩
theorem Wd.unfold {s:Nat} {cls f:Str} {fs:List (Str × Fd)} {fd:Fd} {c:Cell} (w:Wd K G ι Ω H) (hs:Ω[s]? = some (.ins cls fs)) (hf:fs.lookup f=some fd) (hc:fd.cell=some c) :
  ∃ b,Wd K G (ι ++ [b]) (Ω.set s (.ins cls (putD f (.val (.cel Ω.length)) fs)) ++ [c]) H:=by
 obtain ⟨a,ha⟩:=w.addr hs
 obtain ⟨g,C,dx,ws,h0,h1,h2⟩:=w.cel s _ a hs ha
 obtain ⟨i0,e1,e2⟩:=zj0 hf
 obtain ⟨q1,q2⟩:=zcu.mp h2
 have hi0:i0 < fs.length:=(List.getElem?_eq_some_iff.mp e1).1
 obtain ⟨⟨k0,v0⟩,e3⟩ : ∃ p,ws[i0]? = some p:=⟨ws[i0]'(by omega),List.getElem?_eq_getElem _⟩
 obtain ⟨rfl,o0⟩:=q2 i0 k0 v0 f fd e3 e1
 obtain ⟨b,rfl,hb,⟨o,ho⟩,hC⟩:=o0.ownC hc
 have own0:zcw H ι Ω s i0 b:=⟨a,cls,fs,C,dx,ws,_,_,fd,ha,hs,h1,e1,Fd.zlP hc,e3⟩
 have hsl:s < Ω.length:=(List.getElem?_eq_some_iff.mp hs).1
 have hι:∀ k,k < Ω.length→(ι ++ [b])[k]? = ι[k]?:=fun k hk=>List.getElem?_append_left (by rw [w.len];exact hk)
 have hΩ:∀ k,k < Ω.length→(Ω.set s (.ins cls (putD k0 (.val (.cel Ω.length)) fs)) ++ [c])[k]? = (Ω.set s (.ins cls (putD k0 (.val (.cel Ω.length)) fs)))[k]?:=fun k hk=>List.getElem?_append_left (by simpa using hk)
 refine ⟨b,w.sub,?_,by simp [w.len],fun x hx=>?_,fun k c' a' z1 z2=>?_,fun b' k i k' i' z1 z2=>?_⟩
 ·rw [List.nodup_append]
  exact ⟨w.inj,by simp,fun x hx y hy=>by simp at hy;subst hy;exact fun e=>hb (e ▸ hx)⟩
 ·rcases List.mem_append.mp hx with h | h
  ·exact w.live x h
  ·simp at h;subst h;exact ⟨o,ho⟩
 ·by_cases hk:k < Ω.length
  ·rw [hι k hk] at z2
   rw [hΩ k hk] at z1
   by_cases hks:k=s
   ·subst hks
    rw [List.getElem?_set_self hsl] at z1
    cases z1
    rw [ha] at z2;cases z2
    refine ⟨g,C,dx,ws,h0,h1,zcu.mpr ⟨by rw [e2];simpa using q1,fun j h v g' fd' y1 y2=>?_⟩⟩
    rw [e2] at y2
    by_cases hj:j=i0
    ·subst hj
     rw [List.getElem?_set_self hi0] at y2
     cases y2
     rw [e3] at y1;cases y1
     refine ⟨rfl,?_⟩
     simp only [FdOk,Den]
     exact ⟨b,rfl,by rw [← w.len];simp⟩
    ·rw [List.getElem?_set_ne (Ne.symm hj)] at y2
     obtain ⟨r1,r2⟩:=q2 j h v g' fd' y1 y2
     refine ⟨r1,r2.lend fun ow ev=>hj ?_⟩
     subst ev
     exact (w.sep b _ j _ i0 ⟨a,cls,fs,C,dx,ws,_,_,fd',ha,hs,h1,y2,ow,y1⟩ own0).2
   ·rw [List.getElem?_set_ne (Ne.symm hks)] at z1
    have q:=w.cel k c' a' z1 z2
    cases c' with
    | lst ds=>obtain ⟨y1,xs,y2,y3⟩:=q;exact ⟨y1,xs,y2,y3.ext (Ext.cell b)⟩
    | dct kvs=>obtain ⟨y1,ws',y2,y3,y4⟩:=q;exact ⟨y1,ws',y2,y3,y4.ext (Ext.cell b)⟩
    | ins cls' fs' =>
     obtain ⟨y0,C',dx',ws',y1,y2,y3⟩:=q
     obtain ⟨p1,p2⟩:=zcu.mp y3
     refine ⟨y0,C',dx',ws',y1,y2,zcu.mpr ⟨p1,fun j h v g' fd' y4 y5=>?_⟩⟩
     obtain ⟨r1,r2⟩:=p2 j h v g' fd' y4 y5
     refine ⟨r1,r2.lend fun ow ev=>hks ?_⟩
     subst ev
     exact (w.sep b k j s i0 ⟨a',cls',fs',C',dx',ws',_,_,fd',z2,z1,y2,y5,ow,y4⟩ own0).1
    | tab x pos qual=>exact q
    | dead=>trivial
  ·have hk2:k=Ω.length:=by
    have:=(List.getElem?_eq_some_iff.mp z1).1
    simp at this;omega
   subst hk2
   rw [← w.len] at z2
   simp at z2
   subst z2
   simp at z1
   subst z1
   cases fd with
   | val x=>cases hc
   | lst ds=>cases hc;obtain ⟨y1,xs,y2,y3⟩:=hC;exact ⟨y1,xs,y2,y3.ext (Ext.cell b)⟩
   | dct kvs=>cases hc;obtain ⟨y1,ws',y2,y3,y4⟩:=hC;exact ⟨y1,ws',y2,y3,y4.ext (Ext.cell b)⟩
 ·have back:∀ {k i},zcw H (ι ++ [b]) (Ω.set s (.ins cls (putD k0 (.val (.cel Ω.length)) fs)) ++ [c]) k i b'→zcw H ι Ω k i b':=fun {k i} h=>by
   have h0':=h
   obtain ⟨a',cls',fs',C',dx',ws',g',h',fd',y1,y2,y3,y4,y5,y6⟩:=h
   by_cases hk:k < Ω.length
   ·rw [hι k hk] at y1
    rw [hΩ k hk] at y2
    by_cases hks:k=s
    ·subst hks
     rw [List.getElem?_set_self hsl] at y2
     cases y2
     rw [ha] at y1;cases y1
     rw [h1] at y3;cases y3
     rw [e2] at y4
     by_cases hj:i=i0
     ·subst hj
      rw [List.getElem?_set_self hi0] at y4
      cases y4
      cases y5
     ·rw [List.getElem?_set_ne (Ne.symm hj)] at y4
      exact ⟨a,_,fs,C,dx,ws,g',h',fd',ha,hs,h1,y4,y5,y6⟩
    ·rw [List.getElem?_set_ne (Ne.symm hks)] at y2
     exact ⟨a',cls',fs',C',dx',ws',g',h',fd',y1,y2,y3,y4,y5,y6⟩
   ·have hk2:k=Ω.length:=by
     have:=(List.getElem?_eq_some_iff.mp y2).1
     simp at this;omega
    subst hk2
    exact (h0'.no (by simp) (Fd.zjB hc)).elim
  exact w.sep b' k i k' i' (back z1) (back z2)
theorem ClFs.get {n:Nat}:∀ {fs:List (Str × Fd)} {i:Nat} {p:Str × Fd},ClFs n fs→fs[i]? = some p→ClF n p.2
 | [],_,_,_,h=>by simp at h
 | _ :: _,0,_,c,h=>by simp at h;subst h;exact c.1
 | _ :: fs,i + 1,_,c,h=>ClFs.get (fs:=fs) c.2 (by simpa using h)
end
end V2
namespace V2
open PySem PySem.Spec PyProof.Rows L2
structure ClS (Ω:Sto) (ρ:Ev):Prop where
 cel:∀ (k:Nat) (c:Cell),Ω[k]? = some c→ClC Ω.length c
 env:∀ (i:Nat) (d:A),ρ[i]? = some (some d)→Cl Ω.length d
section
variable {K:PySem.W.Frag} {G H:Hp} {ι:List Addr} {Ω Ω1 Ω2 Ω':Sto} {σ:L2.St} {ρ:Ev} {W:WX} {s:Nat} {f:Str}
end
section
variable {X:Cx} {W:WX} {e:Expr} {tg:Expr} {st:Stmt} {g d:Ev→Mo A} {gb db:Ev→Mo Bool} {gs ds:MS} {gt dt:A→MS}
end
section
variable {K:PySem.W.Frag} {G H:Hp} {ι:List Addr} {Ω:Sto}
theorem Wd.ins (w:Wd K G ι Ω H) {s:Nat} {cls:Str} {fs:List (Str × Fd)} {v:V} (h:Ω[s]? = some (.ins cls fs)) (d:Den K G ι v (.cel s)):∃ a C dx,∃ ws:List (Str × V),v = .ref a∧ι[s]? = some a∧G a=none∧PySem.W.nsIn K mainGlobals cls=some (some (.ref C))∧H a=some (.ins C dx ws)∧zdI K G ι H ws fs:=by
 simp only [Den] at d
 obtain ⟨a,rfl,ha⟩:=d
 obtain ⟨g,C,dx,ws,h1,h2,h3⟩:=w.cel s _ a h ha
 exact ⟨a,C,dx,ws,rfl,ha,g,h1,h2,h3⟩
end
section
variable {X:Cx} {W:WX} {e o value:Expr} {f:Str} {cs:List Str} {pos pos':Pos} {fe fo fv:Ev→Mo A}
end
end V2
namespace L2
open PySem PySem.Spec PyProof.Rows
section
variable {X:Cx} {W:WX} {k:Nat} {f C:Addr} {fd:FuncData} {ps:List Str} {sp:Sp} {dvs:List V} {ds:List Value} {x m:Str} {p pos apos:Pos} {e o:Expr} {es:List Expr} {ta:TE} {t:TA}
structure zpn (K:PySem.W.Frag) (R:Addr) (m:Str) (f:Addr):Prop where
 reads:PySem.W.readsIn K R (.type "type")=true
 find:PySem.W.findCls K (.ref R) (.type "type") m=some (.val (.ref f))
 ga:PySem.W.specialIn K (.ref R) "__getattribute__" = some (some (.builtin "type.__getattribute__"))
 kp:PySem.W.keepIn K (.ref f)=true
end
end L2
namespace V2
open PySem PySem.Spec PyProof.Rows L2
@[simp] def zoZ (n:Nat) (das:List A) (F:List A→Mo A):List A→Mo A:=fun as=>if as.length + das.length=n then F (as ++ das) else stuck
structure zjJ (P:Program) (w:World) (K:PySem.W.Frag) (mg:Str→Option Value) (base:Heap) (cls m:Str) (k:Nat) (n:Nat) (das:List A) (F:List A→Mo A):Prop where
 ex:∃ C f fd ps ds dvs,PySem.W.nsIn K mainGlobals cls=some (some (.ref C))∧Cls K C∧Meth K C m f∧ps.length=n∧FnOk P w K mg base (CXE P w) k f fd ps (spV K ps.length F)∧Binds K fd ps ds∧Vals dvs ds∧∀ G ι,DenL K G ι dvs das
def TabM (X:Cx) (m:Str) (tab:List (Str × (List A→Mo A))):Prop:=∀ cls F,tab.lookup cls=some F→∃ k n das F0,F=zoZ n das F0∧Room k X.A∧zjJ X.prog X.w X.K X.mg X.base cls m k n das F0
section
variable {X:Cx} {W:WX} {m:Str} {tab:List (Str × (List A→Mo A))} {o e:Expr} {es:List Expr} {fo:Ev→Mo A} {fs:Ev→Mo (List A)} {pos apos:Pos}
theorem TabM.nil:TabM X m []:=fun cls F h=>by simp at h
theorem TabM.cons {cls:Str} {k n:Nat} {das:List A} {F:List A→Mo A} (h:zjJ X.prog X.w X.K X.mg X.base cls m k n das F) (hr:Room k X.A) (t:TabM X m tab):TabM X m ((cls,zoZ n das F) :: tab):=fun c F' q=>by
 by_cases e:c=cls
 ·subst e
  simp [List.lookup] at q
  exact ⟨k,n,das,F,q.symm,hr,h⟩
 ·have hb:(c == cls)=false:=beq_eq_false_iff_ne.mpr e
  simp only [List.lookup,hb] at q
  exact t c F' q
structure zpJ (P:Program) (w:World) (K:PySem.W.Frag) (mg:Str→Option Value) (base:Heap) (cls:Str) (k:Nat) (n:Nat) (F:List A→Mo A):Prop where
 ex:∃ C f fd ps,PySem.W.nsIn K mainGlobals cls=some (some (.ref C))∧mg cls=some (.ref C)∧Mk K C f∧ps.length=n∧FnOk P w K mg base (CXE P w) k f fd ps (spV K ps.length F)∧Binds K fd ps []
structure zoN (P:Program) (w:World) (K:PySem.W.Frag) (mg:Str→Option Value) (base:Heap) (rk m:Str) (k:Nat) (n:Nat) (F:List A→Mo A):Prop where
 ex:∃ R f fd ps,mg rk=some (.ref R)∧zpn K R m f∧ps.length=n∧FnOk P w K mg base (CXE P w) k f fd ps (spV K ps.length F)∧Binds K fd ps []
end
end V2
namespace V2
open PySem PySem.Spec PyProof.Rows L2
abbrev lent (Ω:Sto) (s:Nat) (cls f:Str) (fs:List (Str × Fd)) (c:Cell):Sto:=Ω.set s (.ins cls (putD f (.val (.cel Ω.length)) fs)) ++ [c]
section
variable {cs:List Str} {i:Nat} {f:Str} {ρ:Ev} {Ω:Sto} {s:Nat} {cls:Str} {fs:List (Str × Fd)} {fd fd':Fd} {c c':Cell}
end
section
variable {X:Cx} {W:WX} {e e1 o tg:Expr} {f:Str} {cs:List Str} {i:Nat} {pos pos' apos fpos:Pos} {fe fi:Ev→Mo A}
end
section
variable {X:Cx} {W:WX} {st:Stmt} {f:Str} {cs:List Str} {i:Nat} {pos lpos apos fpos npos:Pos} {gs:MS} {x:Str}
end
end V2
namespace V2
open PySem PySem.Spec PyProof.Rows L2
section
variable {X:Cx} {W:WX} {st:Stmt} {f:Str} {cs:List Str} {i:Nat} {fv:Ev→Mo A}
end
section
variable {P:Program} {w:World} {K:PySem.W.Frag} {mg:Str→Option Value} {base:Heap}
theorem ziu {x qual:Str} {st:Stmt} {N ps:List Str} {k:Nat} {b:MS} {f:Addr} {fd:FuncData} (F:Fun K x qual st f fd) (S:zat N ps (zab st))
  (hbody:∀ (f:Addr) (cdv:Value) (A:Around) (outer:List Env) (s:Shared) (H:Hp) (E:XK),Room k (A.deeper (envOfC qual (zab st) s.heap.objs.size f cdv)) →
   VSs (cxX P w K mg base N qual (zab st) f cdv A outer s H E) (fun _=>E) (zai st) b):FnOk P w K mg base (CXE P w) (k + 1) f fd ps (spV K ps.length (fnF N.length b)):=by
 obtain ⟨oc,od,kV,doc,pm,an,cdv,ct,osl,rfl,lk,hcd⟩:=F.ex
 refine zlU lk hcd S (fun vs H Q E h=>h.1) fun A outer s H vs Q E hr hsp=>?_
 obtain ⟨t,p,q⟩:=hbody f cdv A outer s H E hr
 exact ⟨t,zln p,zgR q hsp⟩
structure HasM (K:PySem.W.Frag) (mg:Str→Option Value) (cls m qual:Str) (st:Stmt):Prop where
 ex:∃ C f fd,PySem.W.nsIn K mainGlobals cls=some (some (.ref C))∧mg cls=some (.ref C)∧Cls K C∧Meth K C m f∧Fun K m qual st f fd
theorem zjJ.of {cls m qual:Str} {st:Stmt} {N ps:List Str} {k:Nat} {b:MS} (h:HasM K mg cls m qual st) (S:zat N ps (zab st))
  (bind:∀ (kV doc pm:Value) (an:Option Addr) (cdv ct:Value) (us:List Value),us.length=ps.length→bindArgs (PySem.W.fnOf m qual (zau st) (zai st) (zab st) .none kV doc pm an cdv ct) ⟨us,[]⟩ = pure (ps.zip us))
  (hbody:∀ (f:Addr) (cdv:Value) (A:Around) (outer:List Env) (s:Shared) (H:Hp) (E:XK),Room k (A.deeper (envOfC qual (zab st) s.heap.objs.size f cdv)) →
   VSs (cxX P w K mg base N qual (zab st) f cdv A outer s H E) (fun _=>E) (zai st) b):zjJ P w K mg base cls m (k + 1) ps.length [] (fnF N.length b):=by
 obtain ⟨C,f,fd,h1,_,h2,h3,F⟩:=h.ex
 exact ⟨C,f,fd,ps,[],[],h1,h2,h3,rfl,ziu F S hbody,F.binds bind, .nil,fun _ _ => .nil⟩
theorem zjJ.none {cls m qual:Str} {st:Stmt} {N ps:List Str} {k n:Nat} (h:HasM K mg cls m qual st) (hn:ps.length=n) (bind:∀ (kV doc pm:Value) (an:Option Addr) (cdv ct:Value) (us:List Value),us.length=ps.length→bindArgs (PySem.W.fnOf m qual (zau st) (zai st) (zab st) .none kV doc pm an cdv ct) ⟨us,[]⟩ = pure (ps.zip us)) :
  zjJ P w K mg base cls m k n [] (fun _=>stuck):=by
 obtain ⟨C,f,fd,h1,_,h2,h3,F⟩:=h.ex
 exact ⟨C,f,fd,ps,[],[],h1,h2,h3,hn,⟨fun vs H Q E h=>h.1,fun A outer s H args us vs Q E hr he hb hv hs=>by obtain ⟨_,_,_,_,_,_,_,q⟩:=hs;exact q.elim⟩,F.binds bind, .nil,fun _ _ => .nil⟩
structure HasI (K:PySem.W.Frag) (mg:Str→Option Value) (cls qual:Str) (st:Stmt):Prop where
 ex:∃ C f fd,PySem.W.nsIn K mainGlobals cls=some (some (.ref C))∧mg cls=some (.ref C)∧Mk K C f∧Fun K "__init__" qual st f fd
theorem zpJ.of {cls qual:Str} {st:Stmt} {N ps:List Str} {k:Nat} {b:MS} (h:HasI K mg cls qual st) (S:zat N ps (zab st))
  (bind:∀ (kV doc pm:Value) (an:Option Addr) (cdv ct:Value) (us:List Value),us.length=ps.length→bindArgs (PySem.W.fnOf "__init__" qual (zau st) (zai st) (zab st) .none kV doc pm an cdv ct) ⟨us,[]⟩ = pure (ps.zip us))
  (hbody:∀ (f:Addr) (cdv:Value) (A:Around) (outer:List Env) (s:Shared) (H:Hp) (E:XK),Room k (A.deeper (envOfC qual (zab st) s.heap.objs.size f cdv)) →
   VSs (cxX P w K mg base N qual (zab st) f cdv A outer s H E) (fun _=>E) (zai st) b):zpJ P w K mg base cls (k + 1) ps.length (fnF N.length b):=by
 obtain ⟨C,f,fd,h1,h2,h3,F⟩:=h.ex
 exact ⟨C,f,fd,ps,h1,h2,h3,rfl,ziu F S hbody,F.binds bind⟩
structure HasB (K:PySem.W.Frag) (mg:Str→Option Value) (rk m qual:Str) (st:Stmt):Prop where
 ex:∃ R f fd,mg rk=some (.ref R)∧zpn K R m f∧Fun K m qual st f fd
theorem zoN.of {rk m qual:Str} {st:Stmt} {N ps:List Str} {k:Nat} {b:MS} (h:HasB K mg rk m qual st) (S:zat N ps (zab st))
  (bind:∀ (kV doc pm:Value) (an:Option Addr) (cdv ct:Value) (us:List Value),us.length=ps.length→bindArgs (PySem.W.fnOf m qual (zau st) (zai st) (zab st) .none kV doc pm an cdv ct) ⟨us,[]⟩ = pure (ps.zip us))
  (hbody:∀ (f:Addr) (cdv:Value) (A:Around) (outer:List Env) (s:Shared) (H:Hp) (E:XK),Room k (A.deeper (envOfC qual (zab st) s.heap.objs.size f cdv)) →
   VSs (cxX P w K mg base N qual (zab st) f cdv A outer s H E) (fun _=>E) (zai st) b):zoN P w K mg base rk m (k + 1) ps.length (fnF N.length b):=by
 obtain ⟨R,f,fd,h1,h2,F⟩:=h.ex
 exact ⟨R,f,fd,ps,h1,h2,rfl,ziu F S hbody,F.binds bind⟩
end
end V2
namespace M
open PySem V2
end M
namespace V2
open PySem PySem.Spec PyProof.Rows L2
section
variable {X:Cx} {W:WX}
end
section
variable {X:Cx} {W:WX} {pos:Pos}
end
end V2
namespace V2
open PySem PySem.Spec PyProof.Rows L2
section
variable {X:Cx} {W:WX}
end
end V2
namespace M
open PySem V2
end M
namespace V2
open PySem PySem.Spec PyProof.Rows L2
section
variable {X:Cx} {pins:List (Addr × Obj)} {σ:L2.St} {H:Hp} {s:Shared}
theorem zkU {h:Heap} {L:Addr} {m m':Str→Option Value} (a:h.Ns L m) (b:h.Ns L m'):m=m':=by
 obtain ⟨o,es,ep,h1,h2,_,h3⟩:=a
 obtain ⟨o',es',ep',h1',h2',_,h3'⟩:=b
 rw [h1] at h1';cases h1'
 rw [h2] at h2';cases h2'
 funext x
 rw [← h3,← h3']
theorem Inv.frm (I:Inv X pins σ H s):∃ m,s.heap.Ns X.env.locals m∧Fr X.base X.env.locals s.heap m :=
 let ⟨m,hn,_⟩:=I.loc
 ⟨m,hn,hn,I.bk,Nat.le_trans I.ok.bsz I.ok.above⟩
theorem Inv.led (I:Inv X pins σ H s) {h':Heap} {m:Str→Option Value} {news:List (Addr × Obj)} (F:Fr X.base X.env.locals h' m) (N:News X.base X.env.locals h' news) (hN:∀ p ∈ zfj X.base s.heap X.env.locals,p ∈ news) :
  ∀ b o,b ≠ X.env.locals→s.heap.get? b=some o→h'.get? b=some o:=fun b o h1 e=>by
 cases q:X.base.get? b with
 | some u =>
  have:=I.bk b u q
  rw [e] at this;cases this
  exact F.keep b _ q
 | none=>exact (N (b,o) (hN _ (zh7 h1 q e))).1
theorem Inv.zkC (I:Inv X pins σ H s) {h':Heap} {m:Str→Option Value} {t':Nat} (hm:s.heap.Ns X.env.locals m) (F:Fr X.base X.env.locals h' m) (k:∀ b o,b ≠ X.env.locals→s.heap.get? b=some o→h'.get? b=some o) :
  Inv X pins σ H { s with heap:=h',toks:=t' }:=by
 have nL:∀ b u,H b=some u→b ≠ X.env.locals:=fun b u e z=>by rw [z,I.free] at e;cases e
 refine I.step (g':=s.gens) (d':=s.drawn) (ch:=[]) (fun _ z=>nomatch z) (fun b o hL _ _ e _=>k b o hL e) (fun b o hL _ _ e _=>⟨o.slots,k b o hL e⟩) (fun _ _ _ _ n=>n) (fun b o _ e=>?_) (fun _ _ e=>e) (fun _ _ _ e=>e) (fun b ps e=>⟨#[],by rw [e];simp⟩) (fun m' hm'=>?_) (fun b u e=>?_) I.bare
 ·by_cases hL:b=X.env.locals
  ·subst hL
   obtain ⟨o',_,_,h1,_⟩:=F.ns
   exact ⟨o',h1⟩
  ·exact ⟨o,k b o hL e⟩
 ·rw [← zkU hm hm'];exact F.ns
 ·refine (I.hok b u e).stay (fun c v hc q=>k c v ?_ q) (fun _ q=>q) fun _ _ q=>q
  rcases hc with z | z
  ·rw [z];exact nL b u e
  ·exact nL c _ z
theorem Inv.zqs (I:Inv X pins σ H s) {h':Heap} {m:Str→Option Value} {t':Nat} {a:Addr} {o:HO} (hm:s.heap.Ns X.env.locals m) (F:Fr X.base X.env.locals h' m) (k:∀ b o,b ≠ X.env.locals→s.heap.get? b=some o→h'.get? b=some o) (ha:s.heap.objs.size ≤ a)
  (new:zcl X.prog X.w (upd H a o) h' a o):Inv X pins σ (upd H a o) { s with heap:=h',toks:=t' }:=by
 have nL:∀ b u,H b=some u→b ≠ X.env.locals:=fun b u e z=>by rw [z,I.free] at e;cases e
 have fr:H a=none:=I.hok.fresh ha
 have na:∀ b u,H b=some u→b ≠ a:=fun b u e z=>by rw [z,fr] at e;cases e
 have up:∀ b,b ≠ a→upd H a o b=H b:=fun b h=>by simp [upd,h]
 refine I.step (g':=s.gens) (d':=s.drawn) (ch:=[]) (fun _ z=>nomatch z) (fun b o hL _ _ e _=>k b o hL e) (fun b o hL _ _ e _=>⟨o.slots,k b o hL e⟩) (fun b o' _ e n=>?_) (fun b o' _ e=>?_) (fun b xs e=>?_) (fun b u v e=>?_) (fun b ps e=>⟨#[],?_⟩) (fun m' hm'=>?_) (fun b u e=>?_) I.bare
 ·rw [up b (Nat.ne_of_lt (Nat.lt_of_lt_of_le (Heap.lt_size e) ha))];exact n
 ·by_cases hL:b=X.env.locals
  ·subst hL
   obtain ⟨o',_,_,h1,_⟩:=F.ns
   exact ⟨o',h1⟩
  ·exact ⟨o',k b o' hL e⟩
 ·rw [up b (na b _ e)];exact e
 ·rw [up b (na b _ e)];exact e
 ·rw [up b (na b _ e),e];simp
 ·rw [← zkU hm hm'];exact F.ns
 ·by_cases hb:b=a
  ·subst hb
   have:upd H b o b=some o:=by simp [upd]
   rw [this] at e;cases e
   exact new
  ·rw [up b hb] at e
   refine (I.hok b u e).stay (fun c v hc q=>k c v ?_ q) (fun c q=>?_) fun c xs q=>?_
   ·rcases hc with z | z
    ·rw [z];exact nL b u e
    ·exact nL c _ z
   ·rw [up c (na c _ q)];exact q
   ·rw [up c (na c _ q)];exact q
end
theorem zg8:∀ {ys:List Str} {its:List Value},Vals (ys.map V.str) its→StrsAre its ys
 | [],_, .nil => .nil
 | y :: ys,_, .cons r1 r2=>by
  obtain ⟨t,rfl⟩:=r1
  exact .cons y t (zg8 r2)
theorem zha:∀ {l:List (Str × Tok)},Vals ((l.map fun x=>x.1).map V.str) (strValues l)
 | [] => .nil
 | (x,t) :: l => .cons ⟨t,rfl⟩ zha
def sumL (ys:List Str):Nat:=(ys.map fun x=>x.length).sum
section
variable {X:Cx} {W:WX}
def rJoin (K:PySem.W.Frag):V→List V→Hp→VK→Prop:=fun x vs H Q=>∃ z p,∃ ys:List Str,x = .str z∧vs=[.ref p]∧SqL K H p (ys.map V.str)∧sumL ys + ys.length * z.length ≤ 16777216∧Q (.str (Txt.join z ys)) H
theorem zcU:MtM X "str.join" (rJoin X.K):=by
 intro pins s σ H x vs v us Q I rx rv h
 obtain ⟨z,p,ys,rfl,rfl,hq,hz,q⟩:=h
 obtain ⟨t,rfl⟩:=rx
 obtain ⟨u,rfl,ru⟩:=rv.one
 cases ru
 obtain ⟨its,r,pl,_⟩:=I.list hq
 exact join_list pl.isList (by simpa using zg8 r) hz fun t' k=>⟨.str _,H,I.tok _,⟨_,rfl⟩,q⟩
def zmN:V→List V→Hp→VK→Prop:=fun x vs H Q=>∃ z y,x = .str z∧vs=[.str y]∧(y.length == 0)=false∧z.length + 2 ≤ sizeLine∧∀ l,H l=none→Q (.ref l) (upd H l (.lst ((Txt.split z y).map V.str)))
theorem zc1:MtM X "str.split" zmN:=by
 intro pins s σ H x vs v us Q I rx rv h
 obtain ⟨z,y,rfl,rfl,hy,hz,q⟩:=h
 obtain ⟨t,rfl⟩:=rx
 obtain ⟨u,rfl,ru⟩:=rv.one
 obtain ⟨t',rfl⟩:=ru
 obtain ⟨m,hm,F⟩:=Inv.frm I
 refine splitN1A F ze3 hy (fun l h' k hl _ _ hi F' N'=>?_) hz
 have kk:=Inv.led I F' N' fun p hp=>List.mem_cons_of_mem _ hp
 have hlen:(Txt.split z y).length ≤ sizeLine:=Nat.le_trans (split_le z y) hz
 refine ⟨.ref s.heap.objs.size,_,Inv.zqs I (t':=k) (o := .lst ((Txt.split z y).map V.str)) hm F' kk (Nat.le_refl _) ?_,rfl,q _ (I.hok.fresh (Nat.le_refl _))⟩
 exact ⟨by simpa using hlen,strValues l,0,by rw [← hl];exact zha,(N' _ (List.mem_cons_self ..)).1⟩
def zkz:V→List V→Hp→VK→Prop:=fun x vs H Q=>∃ z y,x = .str z∧vs=[.str y]∧Q (.bl (Txt.startswith z y)) H
theorem zhM:MtM X "str.startswith" zkz:=by
 intro pins s σ H x vs v us Q I rx rv h
 obtain ⟨z,y,rfl,rfl,q⟩:=h
 obtain ⟨t,rfl⟩:=rx
 obtain ⟨u,rfl,ru⟩:=rv.one
 obtain ⟨t',rfl⟩:=ru
 exact SC.startswith ⟨.bl _,H,I,rfl,q⟩
theorem zhy:zdc X (.type "int") (fun xs H Q=>∃ z n,xs=[.str z]∧PySem.intText? z=some n∧z.length ≤ 640∧Q (.int n) H):=by
 intro pins s σ H xs us Q I r h
 obtain ⟨z,n,rfl,hn,hz,q⟩:=h
 obtain ⟨u,rfl,ru⟩:=vals1 r
 obtain ⟨t,rfl⟩:=ru
 exact PySem.W.KIN.call_text hn hz ⟨.int n,H,I.tok _,⟨_,rfl⟩,q⟩
theorem zgi:∀ {bs:List Bool} {its:List Value},Vals (bs.map V.bl) its→LSm.BoolsAre its bs
 | [],_, .nil => .nil
 | b :: bs,_, .cons r1 r2=>by
  cases (show _=Value.bool b from r1)
  exact .cons b (zgi r2)
theorem zfY (hc:X.calm=true):zdc X (.builtin "all") (fun xs H Q=>∃ p,∃ bs:List Bool,xs=[.ref p]∧SqL X.K H p (bs.map V.bl)∧Q (.bl (bs.all id)) H):=by
 intro pins s σ H xs us Q I r h
 obtain ⟨p,bs,rfl,hq,q⟩:=h
 obtain ⟨u,rfl,ru⟩:=vals1 r
 cases ru
 obtain ⟨its,r',pl,_⟩:=I.list hq
 obtain ⟨m,hm,F⟩:=Inv.frm I
 refine LSm.all_bools F ze3 (I.ok.hd hc) pl.isList (zgi r') fun h' tk F' N'=>?_
 exact ⟨.bl _,H,Inv.zkC I hm F' (Inv.led I F' N' fun p hp=>hp),rfl,q⟩
end
end V2
namespace L2
open PySem PySem.Spec PyProof.Rows
section
variable {prog:Program} {w:World} {A:Around} {E:Value→Shared→Prop} {s:Shared}
end
end L2
namespace L2
open PySem PySem.Spec PyProof.Rows
section
variable {X:Cx}
end
end L2
namespace L2
open PySem PySem.Spec PyProof.Rows
def Its (z:Str):It:=⟨fun i _=>i < z.cps.size,fun i H x H'=>H'=H∧∃ c,z.cps[i]? = some c∧x = .str ⟨#[c]⟩,fun i _=>z.cps.size ≤ i⟩
theorem zl6 {P:Program} {w:World} {K:PySem.W.Frag} {tg:Expr} (it:Addr) (z:Str) (t:Tok):Turn P w K tg (Its z) [it] it (fun i h=>i ≤ z.cps.size∧h.IsStrIter it "str_ascii_iterator" z t i) where
 mem:=by simp
 obj:=fun i h st b hb=>by
  have e:b=it:=by simpa using hb
  subst e
  obtain ⟨_,o,ho,hc,hd⟩:=st
  exact ⟨o,ho,fun v q=>by rw [hd] at q;cases q⟩
 keep:=fun i h h' st k=>by
  obtain ⟨hi,o,ho,hc,hd⟩:=st
  exact ⟨hi,o,k it (by simp) o ho,hc,hd⟩
 item:=by
  intro X hP hw hK hc i pins s σ H E I hf st hg
  subst hP hw hK
  obtain ⟨f0,f1,f2,f3,f4,f5⟩:=hf it (by simp)
  have W:=Walks.strAscii (prog:=X.prog) (w:=X.w) (A:=X.A) (I.ok.hd hc) it z t
  refine W.item i s _ _ hg st.2 fun v h' tk hv st' kk=>?_
  obtain ⟨c,u,hc',rfl⟩:=hv
  have I1:Inv X pins σ H { s with heap:=h',toks:=tk }:=I.turned (fun b o hb e=>kk b o (by simpa using hb) e) f0 f1 f3 f4 f5
  obtain ⟨o,e,c1,d⟩:=id st'
  exact ⟨_,rfl,zml (s:={ s with heap:=h',toks:=tk }) e c1 d (by decide) ⟨.str ⟨#[c]⟩,H,I1,⟨u,rfl⟩,⟨rfl,c,hc',rfl⟩,⟨hg,st'⟩,fun b hb=>(hf b hb).1⟩⟩
 done:=by
  intro X hP hw hK hc i pins s σ H E I hf st hg
  subst hP hw hK
  obtain ⟨f0,f1,f2,f3,f4,f5⟩:=hf it (by simp)
  have W:=Walks.strAscii (prog:=X.prog) (w:=X.w) (A:=X.A) (I.ok.hd hc) it z t
  have e:i=z.cps.size:=Nat.le_antisymm st.1 hg
  subst e
  exact W.done s _ _ st.2 fun h' tk kk=>⟨rfl,I.turned (fun b o hb e=>kk b o (by simpa using hb) e) f0 f1 f3 f4 f5⟩
 self:=fun _ _ _ _ _ st h=>wpAny_pyIter_striter_ascii st.2 h
section
variable {X:Cx} {tg:Expr}
def ascii (z:Str):Bool:=z.cps.all fun x=>decide (x < 128)
theorem zo8 {l:Expr} {tl:TE} (hl:PE X l tl):PI X tg l (fun σ H R=>tl σ H fun x H1=>∃ z,x = .str z∧ascii z=true∧R (Its z) H1):=by
 intro pins s σ H R I h
 refine thn (hl pins s σ H _ I h) fun v s1 ⟨x,H1,I1,r1,q1⟩=>?_
 obtain ⟨z,e,hz,q⟩:=q1
 subst e
 obtain ⟨t,rfl⟩:=r1
 refine wpAny_pyIter_ascii hz ?_
 refine ⟨s1.heap.objs.size,[s1.heap.objs.size],_,_,H1,rfl,I1.kept (t':=s1.toks) fun b o e=>Heap.get?_push_of_some _ e,zl6 _ z t,⟨Nat.zero_le _,_,Heap.get?_push_size _ rfl,rfl,rfl⟩,fun b hb=>?_,q⟩
 have e:b=s1.heap.objs.size:=by simpa using hb
 subst e
 exact I1.fpOk (Nat.le_refl _) (I1.hok.fresh (Nat.le_refl _))
theorem zkO {e a:Expr} {te ta:TE} {p2 pos:Pos} (he:PE X e te) (ha:PE X a ta) (hgo:∀ v r,letTemporaryGo e v r=pure ():=by intros;rfl) :
  PE X (.Subscript e (.Slice (some a) none none p2) pos) (fun σ H Q=>te σ H fun x H1=>∃ z,x = .str z∧z.length ≤ sizeLine∧ta σ H1 fun y H2=>∃ i,y = .int i∧Q (.str (Txt.slice z (some i) none)) H2):=by
 intro pins s σ H Q I h
 refine Subscript_ (thn (he pins s σ H _ I h) fun v s1 ⟨x,H1,I1,r1,z,ez,hz,q1⟩=>?_)
 subst ez
 obtain ⟨t,rfl⟩:=r1
 refine wpAny_Slice ?_
 rw [evalPart_some]
 refine thn (ha pins s1 σ H1 _ I1 q1) fun vl s2 ⟨y,H2,I2,r2,i,ei,q⟩=>?_
 subst ei
 obtain ⟨ui,rfl⟩:=r2
 rw [evalPart_none]
 refine wpAny_pure ?_
 refine wpAny_pure ?_
 obtain ⟨m,hm,F⟩:=V2.Inv.frm I2
 exact slice_strN_sn F ze3 (fun h' t' k F' N'=>⟨.str _,H2,V2.Inv.zkC I2 hm F' (V2.Inv.led I2 F' N' fun p hp=>hp),⟨_,rfl⟩,q⟩) (by with_unfolding_all rfl) (hgo _) hz
end
end L2
namespace V2
open PySem PySem.Spec PyProof.Rows L2
def strsOf:List A→Option (List Str)
 | []=>some []
 | .str x :: r=>(strsOf r).map (x :: ·)
 | _=>none
theorem zg6 {K:PySem.W.Frag} {G:Hp} {ι:List Addr}:∀ {ds:List A} {xs:List V} {ys:List Str},strsOf ds=some ys→DenL K G ι xs ds→xs=ys.map V.str
 | [],xs,ns,h,d=>by
  simp only [strsOf,Option.some.injEq] at h;subst h
  rw [zbm] at d;subst d;rfl
 | a :: ds,xs,ns,h,d=>by
  obtain ⟨x,t,rfl,d1,d2⟩:=d.zbW
  cases a with
  | str i =>
   simp only [strsOf,Option.map_eq_some_iff] at h
   obtain ⟨ms,h1,rfl⟩:=h
   simp only [Den] at d1;subst d1
   rw [zg6 h1 d2];rfl
  | _=>simp [strsOf] at h
@[simp] theorem zgk:∀ ys:List Str,strsOf (ys.map A.str)=some ys
 | []=>rfl
 | y :: r=>by simp [strsOf,zgk r]
def zhA:List A→Option (List Bool)
 | []=>some []
 | .bl x :: r=>(zhA r).map (x :: ·)
 | _=>none
theorem ziF {K:PySem.W.Frag} {G:Hp} {ι:List Addr}:∀ {ds:List A} {xs:List V} {ys:List Bool},zhA ds=some ys→DenL K G ι xs ds→xs=ys.map V.bl
 | [],xs,ns,h,d=>by
  simp only [zhA,Option.some.injEq] at h;subst h
  rw [zbm] at d;subst d;rfl
 | a :: ds,xs,ns,h,d=>by
  obtain ⟨x,t,rfl,d1,d2⟩:=d.zbW
  cases a with
  | bl i =>
   simp only [zhA,Option.map_eq_some_iff] at h
   obtain ⟨ms,h1,rfl⟩:=h
   simp only [Den] at d1;subst d1
   rw [ziF h1 d2];rfl
  | _=>simp [zhA] at h
@[simp] theorem zfs:∀ ys:List Bool,zhA (ys.map A.bl)=some ys
 | []=>rfl
 | y :: r=>by simp [zhA,zfs r]
theorem zhK {K:PySem.W.Frag} {G:Hp} {ι:List Addr}:∀ ys:List Str,DenL K G ι (ys.map V.str) (ys.map A.str)
 | []=>by simp [DenL]
 | y :: r=>by
  have:=zhK (K:=K) (G:=G) (ι:=ι) r
  simp only [List.map_cons,DenL]
  exact ⟨_,_,rfl,by simp only [Den],this⟩
section
variable {X:Cx} {W:WX} {e a b:Expr} {es:List Expr} {pos:Pos} {fa fb:Ev→Mo A} {fs:Ev→Mo (List A)}
@[simp] def zcR (c:Bool):A→A→Mo A
 | .str x, .str y=>mb (chk (x.length + y.length ≤ sizeLine)) fun _=>ret (.str (x ++ y))
 | a,b=>gAdd c a b
theorem zeL (c:Bool):OpOk X W (binaryOp .Add) (zcR c):=by
 obtain ⟨r,c1,c2⟩:=zbR (X:=X) (W:=W) c
 refine ⟨_,zjF.or c1,?_⟩
 intro G ι Ω H σ x y a b Q w d1 d2 h
 unfold zcR at h
 split at h
 ·simp only [Den] at d1 d2
  obtain ⟨hz,h⟩:=Post.chk h
  exact .inl ⟨_,_,d1,d2,hz,zax w (by simp only [Den]) h⟩
 ·exact .inr (c2 G ι Ω H σ x y _ _ Q w d1 d2 h)
def zjI (i j:Str):Bool:=!(Builtin.Str.occurrences j i 0 j.length 1).isEmpty
@[simp] def gInS:A→A→Mo A
 | .str i, .str j=>ret (.bl (zjI i j))
 | _,_=>stuck
theorem zqa:OpOk X W (compareOp .In) gInS:=by
 refine ⟨_,zld,?_⟩
 intro G ι Ω H σ x y a b Q w d1 d2 h
 unfold gInS at h
 split at h
 ·simp only [Den] at d1 d2
  exact ⟨_,_,d1,d2,zax w (by simp only [Den,zjI]) h⟩
 ·exact False.elim h
@[simp] def gIxS:A→A→Mo A
 | .str z, .int i=>if z.length ≤ sizeLine then (match atI z.cps.toList i with
  | some c=>ret (.str ⟨#[c]⟩)
  | none=>stuck) else stuck
 | _,_=>stuck
theorem zmI (ha:VE X W a fa) (hb:VE X W b fb) (hs:zij b):VE X W (.Subscript a b pos) (vOp gIxS fa fb):=by
 obtain ⟨t,p1,s1⟩:=ha
 obtain ⟨u,p2,s2⟩:=hb
 refine ⟨_,zpX zmJ p1 p2 hs,zgY ?_ s1 s2⟩
 intro G ι Ω H σ x y a i Q w d1 d2 h
 unfold gIxS at h
 split at h
 ·rename_i z n
  simp only [Den] at d1 d2
  split at h
  ·rename_i hz
   cases hc:atI z.cps.toList n with
   | none=>rw [hc] at h;exact False.elim h
   | some c =>
    rw [hc] at h
    exact .inr (.inr ⟨_,_,c,d1,d2,hz,hc,zax w (by simp only [Den]) h⟩)
  ·exact False.elim h
 ·exact False.elim h
@[simp] def zgJ (as:List A):Mo A:=match as with
 | [.str z]=>mb (chk (z.length ≤ sizeLine)) fun _=>ret (.int z.length)
 | as=>gLen as
theorem zhV:zcD X W (.builtin "len") zgJ:=by
 obtain ⟨r,c1,c2⟩:=zeS (X:=X) (W:=W)
 refine ⟨_,zho.or c1,?_⟩
 intro G ι Ω H σ xs as Q w d h
 unfold zgJ at h
 split at h
 ·obtain ⟨x,rfl,d1⟩:=den1 d
  simp only [Den] at d1;subst d1
  obtain ⟨hz,h⟩:=Post.chk h
  exact .inl ⟨_,rfl,hz,zax w (by simp only [Den]) h⟩
 ·exact .inr (c2 G ι Ω H σ xs as Q w d h)
@[simp] def znF (as:List A):Mo A:=match as with
 | [.int i]=>mb (chk (i.natAbs.log2 < 1920)) fun _=>ret (.str (Str.ofString (toString i)))
 | _=>stuck
theorem zpt:zcD X W (.type "str") znF:=by
 refine ⟨_,zhB,?_⟩
 intro G ι Ω H σ xs as Q w d h
 unfold znF at h
 split at h
 ·obtain ⟨x,rfl,d1⟩:=den1 d
  simp only [Den] at d1;subst d1
  obtain ⟨hz,h⟩:=Post.chk h
  exact ⟨_,rfl,hz,zax w (by simp only [Den]) h⟩
 ·exact False.elim h
@[simp] def zn3 (as:List A):Mo A:=match as with
 | [.str z]=>(match intText? z with
  | some n=>mb (chk (z.length ≤ 640)) fun _=>ret (.int n)
  | none=>stuck)
 | as=>zne as
theorem zoH:zcD X W (.type "int") zn3:=by
 obtain ⟨r,c1,c2⟩:=zpP (X:=X) (W:=W)
 refine ⟨_,zhy.or c1,?_⟩
 intro G ι Ω H σ xs as Q w d h
 unfold zn3 at h
 split at h
 ·rename_i z
  cases hn:intText? z with
  | none=>rw [hn] at h;exact False.elim h
  | some n =>
   rw [hn] at h
   obtain ⟨x,rfl,d1⟩:=den1 d
   simp only [Den] at d1;subst d1
   obtain ⟨hz,h⟩:=Post.chk h
   exact .inl ⟨_,n,rfl,hn,hz,zax w (by simp only [Den]) h⟩
 ·exact .inr (c2 G ι Ω H σ xs as Q w d h)
@[simp] def zkj (as:List A):Mo A:=fun Ω=>match as with
 | [a]=>(match (zao Ω a).bind zhA with
  | some bs=>some (.ok (.bl (bs.all id)),Ω)
  | none=>none)
 | _=>none
theorem zmE (hc:X.calm=true):zcD X W (.builtin "all") zkj:=by
 refine ⟨_,zfY hc,?_⟩
 intro G ι Ω H σ xs as Q w d h
 unfold zkj at h
 split at h
 ·split at h
  ·rename_i bs e
   rw [Option.bind_eq_some_iff] at e
   obtain ⟨ds,e1,e2⟩:=e
   obtain ⟨x,rfl,d1⟩:=den1 d
   obtain ⟨p,ys,rfl,h2,h3⟩:=zbt w d1 e1
   rw [ziF e2 h3] at h2
   exact ⟨p,bs,rfl,h2,h _ H G ι (Ext.refl _ _) w (by simp only [Den])⟩
  ·exact False.elim h
 ·exact False.elim h
@[simp] def zoj (as:List A):Mo A:=fun Ω=>match as with
 | [a]=>(match zao Ω a with
  | some ds=>mkT ds Ω
  | none=>none)
 | _=>none
theorem zp4:zcD X W (.type "tuple") zoj:=by
 refine ⟨_,zgC,?_⟩
 intro G ι Ω H σ xs as Q w d h
 unfold zoj at h
 split at h
 ·split at h
  ·rename_i ds e
   obtain ⟨x,rfl,d1⟩:=den1 d
   obtain ⟨p,ys,rfl,h2,h3⟩:=zbt w d1 e
   exact ⟨p,ys,rfl, .inl ⟨h2,fun l hl=>ziU w hl h3 h⟩⟩
  ·exact False.elim h
 ·exact False.elim h
@[simp] def vBS (g:Str→List A→Mo A) (fo:Ev→Mo A) (f:Ev→Mo (List A)):Ev→Mo A:=fun ρ=>mb (fo ρ) fun o=>match o with
 | .str z=>mb (f ρ) (fun as=>g z as)
 | _=>stuck
def MtS (K:PySem.W.Frag) (W:WX) (r:V→List V→Hp→VK→Prop) (g:Str→List A→Mo A):Prop :=
 ∀ G ι Ω H σ z xs as Q,Wd K G ι Ω H→DenL K G ι xs as→Post K (Den K) W G ι σ Q (g z as Ω)→r (.str z) xs H Q
theorem zdb {name:Str} {apos:Pos} {id:String} {r:V→List V→Hp→VK→Prop} {g:Str→List A→Mo A} (slot:Slot "str" name id) (hty:typeOf (.builtin id)=pure (.type "method_descriptor")) (hm:MtR X id r) (hv:MtS X.K W r g) (ho:VE X W a fa) (ha:VA X W (e :: es) fs)
  (hbase:attributeBase a name X.env (eval a X.env)=eval a X.env:=by rfl)
  (hfew:((backTo pos (starEach (e :: es) X.env)).all (fun x=>!x.1) && (backToKw pos (keywordEach [] X.env)).all (fun x=>x.1.isSome)
   && decide ((e :: es).length + ([] : List Keyword).length + (if ([] : List Keyword).isEmpty then 0 else 1) < 30))=true:=by rfl)
  (hline:(apos.endLine == pos.line)=true:=by rfl) (hs:starEach (e :: es) X.env=(false,eval e X.env) :: starEach es X.env:=by rfl) (hplain:(backTo pos (starEach es X.env)).any (·.1)=false:=by rfl) :
  VE X W (.Call (.Attribute a name apos) (e :: es) [] pos) (vBS g fa fs):=by
 obtain ⟨t,p1,s1⟩:=ho
 obtain ⟨u,p2,s2⟩:=ha
 refine ⟨_,zpY F.plainAttrs_str slot hty hm p1 p2 hbase hfew hline hs hplain,fun G ι Ω H σ ρ Q w r h=>?_⟩
 refine s1 G ι Ω H σ ρ _ w r (Post.mb h fun x Ω1 v H1 G1 ι1 x1 w1 d1 h1=>?_)
 cases x with
 | str z =>
  simp only [Den] at d1;subst d1
  exact ⟨rfl,s2 G1 ι1 Ω1 H1 σ ρ _ w1 (r.ext x1) (Post.mb h1 fun as Ω2 vs H2 G2 ι2 x2 w2 d2 h2=>hv G2 ι2 Ω2 H2 σ z vs as Q w2 d2 h2)⟩
 | _=>exact False.elim h1
@[simp] def zdo (z:Str) (as:List A):Mo A:=fun Ω=>match as with
 | [a]=>(match (zao Ω a).bind strsOf with
  | some ys=>if sumL ys + ys.length * z.length ≤ 16777216 then some (.ok (.str (Txt.join z ys)),Ω) else none
  | none=>none)
 | _=>none
theorem zd8:MtS X.K W (rJoin X.K) zdo:=by
 intro G ι Ω H σ z xs as Q w d h
 unfold zdo at h
 split at h
 ·split at h
  ·rename_i ys e
   split at h
   ·rename_i hz
    rw [Option.bind_eq_some_iff] at e
    obtain ⟨ds,e1,e2⟩:=e
    obtain ⟨x,rfl,d1⟩:=den1 d
    obtain ⟨p,us,rfl,h2,h3⟩:=zbt w d1 e1
    rw [zg6 e2 h3] at h2
    exact ⟨z,p,ys,rfl,rfl,h2,hz,h _ H G ι (Ext.refl _ _) w (by simp only [Den])⟩
   ·exact False.elim h
  ·exact False.elim h
 ·exact False.elim h
@[simp] def zda (c:Bool) (z:Str) (as:List A):Mo A:=fun Ω=>match as with
 | [.str y]=>if (y.length == 0)=false∧z.length + 2 ≤ sizeLine then mkL c ((Txt.split z y).map A.str) Ω else none
 | _=>none
theorem m_split (c:Bool):MtS X.K W zmN (zda c):=by
 intro G ι Ω H σ z xs as Q w d h
 unfold zda at h
 split at h
 ·rename_i y
  split at h
  ·rename_i hz
   obtain ⟨x,rfl,d1⟩:=den1 d
   simp only [Den] at d1;subst d1
   exact ⟨z,y,rfl,rfl,hz.1,hz.2,fun l hl=>ziN w hl (zhK _) h⟩
  ·exact False.elim h
 ·exact False.elim h
@[simp] def zfK (z:Str) (as:List A):Mo A:=match as with
 | [.str y]=>ret (.bl (Txt.startswith z y))
 | _=>stuck
theorem zje:MtS X.K W zkz zfK:=by
 intro G ι Ω H σ z xs as Q w d h
 unfold zfK at h
 split at h
 ·rename_i y
  obtain ⟨x,rfl,d1⟩:=den1 d
  simp only [Den] at d1;subst d1
  exact ⟨z,y,rfl,rfl,zax w (by simp only [Den]) h⟩
 ·exact False.elim h
@[simp] def vSlS (fe fi:Ev→Mo A):Ev→Mo A:=fun ρ=>mb (fe ρ) fun o=>match o with
 | .str z=>mb (chk (z.length ≤ sizeLine)) fun _=>mb (fi ρ) fun i=>match i with
  | .int i=>ret (.str (Txt.slice z (some i) none))
  | _=>stuck
 | _=>stuck
theorem zfE {p2:Pos} (he:VE X W e fa) (ha:VE X W a fb) (hgo:∀ v r,letTemporaryGo e v r=pure ():=by intros;rfl):VE X W (.Subscript e (.Slice (some a) none none p2) pos) (vSlS fa fb):=by
 obtain ⟨t,p1,s1⟩:=he
 obtain ⟨u,p2,s2⟩:=ha
 refine ⟨_,zkO p1 p2 hgo,fun G ι Ω H σ ρ Q w r h=>?_⟩
 refine s1 G ι Ω H σ ρ _ w r (Post.mb h fun x Ω1 v H1 G1 ι1 x1 w1 d1 h1=>?_)
 cases x with
 | str z =>
  simp only [Den] at d1;subst d1
  obtain ⟨hz,h1⟩:=Post.chk h1
  refine ⟨z,rfl,hz,s2 G1 ι1 Ω1 H1 σ ρ _ w1 (r.ext x1) (Post.mb h1 fun a' Ω2 y H2 G2 ι2 x2 w2 d2 h2=>?_)⟩
  cases a' with
  | int i =>
   simp only [Den] at d2
   exact ⟨i,d2,zax w2 (by simp only [Den]) h2⟩
  | _=>exact False.elim h2
 | _=>exact False.elim h1
def zf9 (z:Str):List A:=z.cps.toList.map fun c=>A.str ⟨#[c]⟩
@[simp] def zhL (z:Str):Src:=⟨zf9 z,fun _=>True⟩
@[simp] def zhU (f:Ev→Mo A):Ev→Mo Src:=fun ρ=>mb (f ρ) fun a=>match a with
 | .str z=>mb (chk (ascii z=true)) fun _=>ret (zhL z)
 | _=>stuck
theorem zmW {K:PySem.W.Frag} {G:Hp} {ι:List Addr} {z:Str}:ItV K G ι (Its z) (zhL z):=by
 have hl:(zf9 z).length=z.cps.size:=by simp [zf9]
 refine ⟨fun _ _ _ _ _ _ _ i hi=>show i < z.cps.size by rw [← hl];exact hi,fun _ _ _ _ _ _ _ i hi=>show z.cps.size ≤ i by rw [← hl];exact hi,fun G' ι' Ω' H' e w h i x H2 y hy hd=>?_⟩
 obtain ⟨e1,c,e2,e3⟩:=hd
 subst e1 e3
 refine ⟨G',Ext.refl _ _,w,?_⟩
 simp only [zhL,zf9,List.getElem?_map,Option.map_eq_some_iff] at hy
 obtain ⟨d,hd,rfl⟩:=hy
 rw [Array.getElem?_toList,e2] at hd
 cases hd
 simp only [Den]
theorem zmw {tg l:Expr} {fe:Ev→Mo A} (h:VE X W l fe):VI X W tg l (zhU fe):=by
 obtain ⟨t,p,s⟩:=h
 refine ⟨_,zo8 p,fun G ι Ω H σ ρ R w r h=>?_⟩
 refine s G ι Ω H σ ρ _ w r (Post.mb h fun a Ω1 v H1 G1 ι1 x1 w1 d1 h1=>?_)
 cases a with
 | str z =>
  simp only [Den] at d1;subst d1
  obtain ⟨hz,h1⟩:=Post.chk h1
  exact ⟨z,rfl,hz,zax w1 zmW h1⟩
 | _=>exact False.elim h1
end
end V2
namespace M
open PySem V2
noncomputable def zdJ:Ev→Mo A :=
 (vLC false 1 [] (zhU (vVar 1)) (gN 0) yesM (vOp gInS (vVar 0) (cS "0123456789")))
noncomputable def zcX:MS :=
 (sSeq (sAsg (vIf (zaI (vBS zfK (vVar 0) (zac (cS "-") a0))) (vSlS (vVar 0) (cI 1)) (vVar 0)) (gN 1))
  (sSeq (sIf (vOrT (zaI (vOp gLt (vCl zgJ (zac (vVar 1) a0)) (cI 1))) (zaI (vOp gGt (vCl zgJ (zac (vVar 1) a0)) (cI 60))))
   (sRet (cB false))
   sNx)
  (sSeq (sIf (zgV (zaI (vCl zkj (zac zdJ a0))))
   (sRet (cB false))
   sNx)
  (sRet (vOr (vOp gEq (vVar 0) (cS "0")) (vNot (vBS zfK (vVar 1) (zac (cS "0") a0))))))))
noncomputable def zc3:List A→Mo A:=fnF 2 zcX
noncomputable def zaP:MS :=
 (sAsg (vOp (gAdd false) (vOp (gMul) (vVar 2) (cI 10)) (vOp (gMod) (vCl (zaA 2 zaH) (zac (vVar 0) (zac (vOp (gAdd false) (cI 2) (vVar 3)) a0))) (cI 10))) (gN 2))
noncomputable def zam:MS :=
 (sSeq (sAsg (vOp (gAdd false) (cI 1) (vOp (gMod) (vOp (gDiv) (vVar 0) (cI 8)) (cI 60))) (gN 1))
  (sSeq (sAsg (vOp (gAdd false) (cI 1) (vOp (gMod) (vCl (zaA 2 zaH) (zac (vVar 0) (zac (cI 1) a0))) (cI 9))) (gN 2))
  (sSeq (sFor (zgZ (zac (vOp (gSub) (vVar 1) (cI 1)) a0)) (gN 3) zaP)
  (sRet (vOp gIx (vLst false (zac (cI 0) (zac (cI 1) (zac (vOp (gMod) (vOp (gDiv) (vVar 0) (cI 8)) (cI 100)) (zac (vOp (gSub) (vOp (gSub) (cI 0) (cI 1)) (vOp (gMod) (vOp (gDiv) (vVar 0) (cI 8)) (cI 100))) (zac (vVar 2) (zac (vOp (gSub) (cI 0) (vVar 2)) (zac (vOp (gSub) (vOp (gPow) (cI 10) (cI 60)) (cI 1)) (zac (vOp (gSub) (cI 1) (vOp (gPow) (cI 10) (cI 60))) a0))))))))) (vOp (gMod) (vVar 0) (cI 8)))))))
noncomputable def zaJ:List A→Mo A:=fnF 4 zam
end M
namespace V2
open PySem L2
@[simp] theorem ziY (neg:Bool) (i j:Int) (Ω:Sto):gEqB neg (.int i) (.int j) Ω=some (.ok (.bl (if neg then !(i == j) else i == j)),Ω):=by
 simp [gEqB,res,pur,eqA]
@[simp] theorem zqm (i j:Int) (Ω:Sto):gEq (.int i) (.int j) Ω=some (.ok (.bl (i == j)),Ω):=ziY false i j Ω
@[simp] theorem zqw (i j:Int) (Ω:Sto):gNe (.int i) (.int j) Ω=some (.ok (.bl (!(i == j))),Ω):=ziY true i j Ω
theorem zi9 {i j:Int} (h0 : -18446744073709551616 < i) (h1:i < 18446744073709551616):CMul i j := .inl ⟨h0,h1⟩
theorem zmu {i j:Int} (h0 : -18446744073709551616 < j) (h1:j < 18446744073709551616):CMul i j := .inr ⟨h0,h1⟩
@[simp] theorem zq6 {α:Type} (x:α) (l:List α):atI (x :: l) 0=some x:=zgw _
@[simp] theorem zq7 {α:Type} (x y:α) (l:List α):atI (x :: y :: l) 1=some y:=zlg _
@[simp] theorem zq5 {α:Type} (x y z:α) (l:List α):atI (x :: y :: z :: l) 2=some z:=zfQ _ 2
@[simp] theorem zq9 {α:Type} (x y z u:α) (l:List α):atI (x :: y :: z :: u :: l) 3=some u:=zfQ _ 3
end V2
namespace M
open PySem L2 V2
def mixI (c k:Int):Int :=
 ((c + 1) * (48271 + 118 * k) % 2147483629 / 977 * 16807 + (c + 1) * (48271 + 118 * k) % 2147483629 * (k * k + 7) + k) % 2147483587
theorem mix0 (c k:Int):0 ≤ mixI c k:=Int.emod_nonneg _ (by decide)
theorem mix1 (c k:Int):mixI c k < 2147483587:=Int.emod_lt_of_pos _ (by decide)
theorem zit (c k:Int) (Ω:Sto) (hc:0 ≤ c) (hc1:c < 8589934592) (hk:0 ≤ k) (hk1:k < 1048576):zaH [.int c, .int k] Ω=some (.ok (.int (mixI c k)),Ω):=by
 have f0:=Int.emod_nonneg ((c + 1) * (48271 + 118 * k)) (show (2147483629:Int) ≠ 0 by decide)
 have f1:=Int.emod_lt_of_pos ((c + 1) * (48271 + 118 * k)) (show (0:Int) < 2147483629 by decide)
 have h1:CMul (c + 1) (48271 + 118 * k):=zi9 (by omega) (by omega)
 have h2:CMul k k:=zi9 (by omega) (by omega)
 have h3:∀ j,CMul ((c + 1) * (48271 + 118 * k) % 2147483629) j:=fun j=>zi9 (by omega) (by omega)
 have h4:∀ j,CMul j 16807:=fun j=>zmu (by decide) (by decide)
 have h5:∀ j,CMul 118 j:=fun j=>zi9 (by decide) (by decide)
 have h6:∀ j,CDiv j 977:=fun j=>⟨by decide,by decide⟩
 simp [zaH,zf8,h1,h2,h3,h4,h5,h6,mixI]
def zhE (ns:List Int) (k:Int):Int:=mixI (if k < ns.length then ns[k.toNat]?.getD 0 % 2147483647 else 0) (k + 101)
theorem zm7 (ns:List Int) (k:Int):0 ≤ zhE ns k:=mix0 _ _
theorem znU (ns:List Int) (k:Int):zhE ns k < 2147483587:=mix1 _ _
theorem zko (ns:List Int) (k:Int) (Ω:Sto) (hk:0 ≤ k) (hk1:k < 1000000):za3 [.scr ns, .int k] Ω=some (.ok (.int (zhE ns k)),Ω):=by
 by_cases h:k < (ns.length:Int)
 ·obtain ⟨n,rfl⟩:=Int.eq_ofNat_of_zero_le hk
  have hn:n < ns.length:=by omega
  have e:atI (ns.map A.int) (n:Int)=some (.int ns[n]):=by rw [zdP];simp [hn]
  have f0:=Int.emod_nonneg ns[n] (show (2147483647:Int) ≠ 0 by decide)
  have f1:=Int.emod_lt_of_pos ns[n] (show (0:Int) < 2147483647 by decide)
  have m:=fun Ω=>zit (ns[n] % 2147483647) (n + 101) Ω f0 (by omega) (by omega) (by omega)
  simp [za3,zdW,h,e,m,zhE,hn]
 ·have m:=fun Ω=>zit 0 (k + 101) Ω (by decide) (by decide) (by omega) (by omega)
  simp [za3,zdW,h,m,zhE]
end M
namespace V2
open PySem L2
theorem zer {f:A→A→Bool}:∀ (xs:List A),(∀ x ∈ xs,f x x=true)→zhF f xs xs=true
 | [],_=>rfl
 | x :: xs,h=>by simp only [zhF,h x (List.mem_cons_self ..),Bool.true_and];exact zer xs fun y hy=>h y (List.mem_cons_of_mem _ hy)
theorem zlR:∀ (n:Nat) (a:A),pur n a=true→eqA n a a=true:=by
 intro n
 induction n with
 | zero=>intro a h;cases a <;> first | (simp [eqA];done) | (simp [pur] at h)
 | succ n ih =>
  intro a h
  cases a with
  | tup ds=>simp only [pur,List.all_eq_true] at h;simp only [eqA];exact zer ds fun x hx=>ih x (h x hx)
  | lst ds=>simp only [pur,List.all_eq_true] at h;simp only [eqA];exact zer ds fun x hx=>ih x (h x hx)
  | int i=>simp [eqA]
  | bl i=>simp [eqA]
  | str i=>simp [eqA]
  | non=>simp [eqA]
  | _=>simp [pur] at h
theorem zet {Ω:Sto} {n:Nat} {a:A} (h:pur 8 a=true):res Ω n a=some a:=by
 cases n <;> simp [res,h]
theorem zlu {a b c:A} {Ω:Sto} (ha:res Ω 6 a=some c) (hb:res Ω 6 b=some c) (hc:pur 8 c=true):gEq a b Ω=some (.ok (.bl true),Ω):=by
 simp [gEq,gEqB,ha,hb,hc,zlR 8 c hc]
abbrev E:=Int × Int × Int
theorem zoi (n:Nat) (ds:List A):pur (n + 1) (.lst ds)=ds.all (pur n):=rfl
end V2
namespace M
open PySem L2 V2
end M
namespace M
open PySem L2 V2
end M
namespace M
open PySem L2 V2
end M
namespace V2
open PySem L2
end V2
namespace M
open PySem L2 V2
end M
namespace V2
open PySem L2
theorem zgz {ok:Sto→Prop} {g:A→MS} {c:Ev→Mo Bool} {e:Ev→Mo A} (F:A→Option A) (P:Ev→Prop) (Ω0:Sto) (hok:∀ ys,ok (Ω0 ++ [.lst ys])):∀ (xs:List A) (ρ:Ev) (acc:List A),P ρ→acc.length + xs.length ≤ 1000000 →
  (∀ x ∈ xs,∀ ρ,P ρ→∀ ys,∃ ρ1,P ρ1∧g x ρ (Ω0 ++ [.lst ys])=some (.nx,ρ1,Ω0 ++ [.lst ys])∧((∃ y,F x=some y∧c ρ1 (Ω0 ++ [.lst ys])=some (.ok true,Ω0 ++ [.lst ys])∧e ρ1 (Ω0 ++ [.lst ys])=some (.ok y,Ω0 ++ [.lst ys]))∨(F x=none∧c ρ1 (Ω0 ++ [.lst ys])=some (.ok false,Ω0 ++ [.lst ys])))) →
  ∃ ρ',fLC ok g c e Ω0.length xs ρ (Ω0 ++ [.lst acc])=some (ρ',Ω0 ++ [.lst (acc ++ xs.filterMap F)])
 | [],ρ,acc,_,_,_=>⟨ρ,by simp [fLC,hok]⟩
 | x :: xs,ρ,acc,hP,hl,turn=>by
  simp only [List.length_cons] at hl
  obtain ⟨ρ1,hP1,e1,q⟩:=turn x (List.mem_cons_self ..) ρ hP acc
  have hz:acc.length < sizeLine:=by rw [sizeLine_eq];omega
  rcases q with ⟨y,f1,e2,e3⟩ | ⟨f1,e2⟩
  ·obtain ⟨ρ',ih⟩:=zgz F P Ω0 hok xs ρ1 (acc ++ [y]) hP1 (by simp;omega) fun x hx=>turn x (List.mem_cons_of_mem _ hx)
   exact ⟨ρ',by simp [fLC,hok,e1,e2,e3,hz,ih,f1]⟩
  ·obtain ⟨ρ',ih⟩:=zgz F P Ω0 hok xs ρ1 acc hP1 (by omega) fun x hx=>turn x (List.mem_cons_of_mem _ hx)
   exact ⟨ρ',by simp [fLC,hok,e1,e2,ih,f1]⟩
theorem zja {n:Nat} {js:List Nat} {fi:Ev→Mo Src} {g:A→MS} {c:Ev→Mo Bool} {e:Ev→Mo A} {ρ:Ev} {Ω Ω0:Sto} {S:Src} (F:A→Option A) (P:Ev→Prop) (hfi:fi ρ Ω=some (.ok S,Ω0)) (hok:∀ ys,S.ok (Ω0 ++ [.lst ys])) (hP:P (lcEv n js ρ)) (hl:S.ds.length ≤ 1000000)
  (turn:∀ x ∈ S.ds,∀ ρ,P ρ→∀ ys,∃ ρ1,P ρ1∧g x ρ (Ω0 ++ [.lst ys])=some (.nx,ρ1,Ω0 ++ [.lst ys])∧((∃ y,F x=some y∧c ρ1 (Ω0 ++ [.lst ys])=some (.ok true,Ω0 ++ [.lst ys])∧e ρ1 (Ω0 ++ [.lst ys])=some (.ok y,Ω0 ++ [.lst ys]))∨(F x=none∧c ρ1 (Ω0 ++ [.lst ys])=some (.ok false,Ω0 ++ [.lst ys]))))
  (hc:ClL Ω0.length (S.ds.filterMap F)):vLC false n js fi g c e ρ Ω=some (.ok (.lst (S.ds.filterMap F)),Ω0):=by
 obtain ⟨ρ',q⟩:=zgz F P Ω0 hok S.ds (lcEv n js ρ) [] hP (by simpa using hl) turn
 simp [vLC,mb,hfi,q,znt,hc]
theorem ziG {a:A} {Ω:Sto} (h:pur 8 a=true):gEq a a Ω=some (.ok (.bl true),Ω):=zlu (zet h) (zet h) h
end V2
namespace M
open PySem L2 V2
def L2S (l:List Nat):Str:=⟨l.toArray⟩
@[simp] theorem zcY (l:List Nat):(L2S l).cps.toList=l:=rfl
@[simp] theorem zan (l:List Nat):(L2S l).length=l.length:=by simp [L2S,Str.length]
theorem zhk (x:Str):L2S x.cps.toList=x:=by cases x;rfl
theorem zej {a b:List Nat} (h:L2S a=L2S b):a=b:=by have:=congrArg (fun x:Str=>x.cps.toList) h;exact this
theorem zfu (a b:List Nat):L2S a ++ L2S b=L2S (a ++ b):=by
 show (⟨a.toArray ++ b.toArray⟩ : Str)=⟨(a ++ b).toArray⟩
 simp
def dg (m:Nat):List Nat:=(Nat.toDigits 10 m).map Char.toNat
theorem zmA:∀ d,d < 10→(Nat.digitChar d).toNat=48 + d:=by decide
theorem zpH {m:Nat} (h:m < 10):dg m=[48 + m]:=by
 unfold dg
 rw [Nat.toDigits_of_lt_base h]
 simp [zmA m h]
theorem zqK {m:Nat} (h:10 ≤ m):dg m=dg (m / 10) ++ [48 + m % 10]:=by
 unfold dg
 rw [Nat.toDigits_eq_if (by decide),if_neg (by omega),List.map_append]
 simp [zmA (m % 10) (by omega)]
theorem zpx:∀ (k m:Nat),m ≤ k→∀ c ∈ dg m,48 ≤ c∧c ≤ 57:=by
 intro k
 induction k with
 | zero=>intro m h c hc;rw [zpH (by omega)] at hc;simp at hc;omega
 | succ k ih =>
  intro m h c hc
  by_cases hm:m < 10
  ·rw [zpH hm] at hc;simp at hc;omega
  ·rw [zqK (by omega)] at hc
   rcases List.mem_append.mp hc with z | z
   ·exact ih (m / 10) (by omega) c z
   ·simp at z;omega
theorem zpG {m k:Nat} (hk:0 < k) (h:m < 10 ^ k):(dg m).length ≤ k:=by
 unfold dg
 rw [List.length_map]
 exact (Nat.length_toDigits_le_iff (by decide) hk).mpr h
theorem zmD (m:Nat):(Str.ofString (toString (m:Int)))=L2S (dg m):=by
 rw [← zhk (Str.ofString (toString (m:Int))),PySem.W.KIN.signs_num];rfl
def tL (n:Int):List Nat:=if n < 0 then 45 :: dg n.natAbs else dg n.natAbs
def Few (n:Int):Prop:=n.natAbs < 10 ^ 60
theorem zoY {n:Int} (h:Few n):(tL n).length ≤ 61:=by
 have:=zpG (k:=60) (by decide) h
 unfold tL;split <;> simp <;> omega
def J (c:Nat):List (List Nat)→List Nat
 | []=>[]
 | x :: r=>x ++ r.flatMap fun y=>c :: y
theorem zno (c:Nat) (x y:List Nat) (r:List (List Nat)):J c (x :: y :: r)=x ++ c :: J c (y :: r):=by simp [J]
theorem zpC (c:Nat):∀ xs:List (List Nat),Txt.join ⟨#[c]⟩ (xs.map L2S)=L2S (J c xs)
 | []=>rfl
 | x :: r=>by
  have key:∀ (r:List (List Nat)) (acc:List Nat),List.foldl (fun (a:Array Nat) (p:Str)=>a ++ #[c] ++ p.cps) acc.toArray (r.map L2S)=(acc ++ r.flatMap fun y=>c :: y).toArray:=by
   intro r
   induction r with
   | nil=>intro acc;simp
   | cons y q ih =>
    intro acc
    have e:acc.toArray ++ #[c] ++ (L2S y).cps=(acc ++ c :: y).toArray:=by simp [L2S]
    simp only [List.map_cons,List.foldl_cons,e,ih]
    simp
  show (⟨List.foldl (fun (a:Array Nat) (p:Str)=>a ++ #[c] ++ p.cps) x.toArray (r.map L2S)⟩ : Str)=_
  rw [key];rfl
theorem zhY (c:Nat):∀ xs:List (List Nat),Str.join ⟨#[c]⟩ (xs.map L2S)=L2S (J c xs)
 | []=>rfl
 | [x]=>by show L2S x=_;simp [J]
 | x :: y :: r=>by
  have ih:=zhY c (y :: r)
  show L2S x ++ (⟨#[c]⟩ : Str) ++ Str.join ⟨#[c]⟩ ((y :: r).map L2S)=_
  rw [ih,show (⟨#[c]⟩ : Str)=L2S [c] from rfl,zfu,zfu,zno]
  simp
end M
namespace M
open PySem L2 V2
theorem zlc (c:Nat):(⟨#[c]⟩ : Str)=L2S [c]:=rfl
end M
namespace V2
open PySem L2
theorem rngO {f:Ev→Mo (List A)} {ρ:Ev} {Ω Ω':Sto} {j:Int} (h:f ρ Ω=some (.ok [.int j],Ω')) (hs:zbx j):zgZ f ρ Ω=some (.ok (zc8 0 j.toNat),Ω'):=by
 unfold zgZ
 rw [zd1 h]
 show mb (chk (zbx j)) _ Ω'=_
 rw [zmH _ hs]
 rfl
theorem forO {fi:Ev→Mo Src} {g:A→MS} {b:MS} {ρ:Ev} {Ω Ω':Sto} {S:Src} (h:fi ρ Ω=some (.ok S,Ω')):sFor fi g b ρ Ω=fFor S.ok g b S.ds ρ Ω':=by
 unfold sFor
 rw [zeg h]
theorem zeO {n:Nat}:∀ {as:List A},(∀ a ∈ as,Cl n a)→ClL n as
 | [],_=>by simp only [ClL]
 | a :: as,h=>by simp only [ClL];exact ⟨h a (List.mem_cons_self ..),zeO fun b hb=>h b (List.mem_cons_of_mem _ hb)⟩
end V2
namespace M
open PySem L2 V2
abbrev Rn:=Int × Int
def whole (rs:List Rn):Int:=(rs.map (·.2)).sum
end M
namespace M
open PySem L2 V2
def okL (l:List Nat):Prop:=∀ c ∈ l,c < 128
theorem zfC {l:List Nat} (h:okL l):pur 8 (.str (L2S l))=true:=by
 show PyData.strOk (L2S l)=true
 unfold PyData.strOk
 simp only [L2S,List.all_toArray,List.all_eq_true,decide_eq_true_eq]
 intro c hc
 have:=h c hc
 omega
theorem zew {a b:List Nat} (ha:okL a) (hb:okL b) (Ω:Sto):gEq (.str (L2S a)) (.str (L2S b)) Ω=some (.ok (.bl (a == b)),Ω):=by
 have e:(L2S a == L2S b)=(a == b):=by
  by_cases h:a=b
  ·subst h;simp
  ·have:¬ L2S a=L2S b:=fun z=>h (zej z)
   rw [beq_eq_false_iff_ne.mpr h,beq_eq_false_iff_ne.mpr this]
 have h1:=zfC ha
 have h2:=zfC hb
 have r1:res Ω 6 (.str (L2S a))=some (.str (L2S a)):=by
  simp [res,h1]
 have r2:res Ω 6 (.str (L2S b))=some (.str (L2S b)):=by
  simp [res,h2]
 unfold gEq gEqB
 rw [r1,r2]
 simp only [h1,h2,Bool.and_self,if_true]
 show some (Rs.ok (A.bl (L2S a == L2S b)),Ω)=_
 rw [e]
theorem zqF (n:Int):okL (tL n):=fun c hc=>by
 unfold tL at hc
 have:=zpx n.natAbs n.natAbs (Nat.le_refl _) c
 split at hc
 ·rcases List.mem_cons.mp hc with z | z
  ·omega
  ·have:=this z;omega
 ·have:=this hc;omega
theorem zjM (c d:Nat) (r:List Nat):Txt.startswith (L2S (c :: r)) ⟨#[d]⟩ = (c == d):=by
 have e:((c :: r).toArray.extract 0 1) = #[c]:=by simp
 show (decide (0 + 1 ≤ (L2S (c :: r)).length) && ((c :: r).toArray.extract 0 (0 + 1) == #[d]))=_
 rw [zan,show (0 + 1:Nat)=1 from rfl,e]
 simp
theorem zgX (c:Nat) (r:List Nat):Txt.slice (L2S (c :: r)) (some 1) none=L2S r:=by
 rw [PyProof.Rows.slice_from_eq (b:=((c :: r).length:Int)) (by decide) (by rw [zan];simp;omega) (by rw [zan])]
 rw [zcY]
 show L2S _=_
 congr 1
 have:(((c :: r).length:Int) - 1).toNat=r.length:=by simp
 rw [this];simp
theorem zmt {m:Nat} (h:m < 10 ^ 60):m.log2 < 1920:=by
 by_cases h0:m=0
 ·subst h0;decide
 ·have:m.log2 < 200:=by
   rw [Nat.log2_lt h0]
   exact Nat.lt_of_lt_of_le h (by decide)
  omega
end M
namespace M
open PySem L2 V2
open Classical in
theorem zgE {α:Type} {n:Nat} {js:List Nat} {fi:Ev→Mo Src} {g:A→MS} {e:Ev→Mo A} {ρ:Ev} {Ω Ω0:Sto} {S:Src} (xs:List α) (enc out:α→A) (P:Ev→Prop) (inj:∀ x y,enc x=enc y→out x=out y)
  (h0:fi ρ Ω=some (.ok S,Ω0)) (hok:∀ ys,S.ok (Ω0 ++ [.lst ys])) (hP:P (lcEv n js ρ)) (hS:S.ds=xs.map enc) (hl:xs.length ≤ 1000000)
  (step:∀ x ∈ xs,∀ ρ,P ρ→∀ ys,∃ ρ1,P ρ1∧g (enc x) ρ (Ω0 ++ [.lst ys])=some (.nx,ρ1,Ω0 ++ [.lst ys])∧e ρ1 (Ω0 ++ [.lst ys])=some (.ok (out x),Ω0 ++ [.lst ys]))
  (hc:∀ x ∈ xs,Cl Ω0.length (out x)):vLC false n js fi g yesM e ρ Ω=some (.ok (.lst (xs.map out)),Ω0):=by
 let F:A→Option A:=fun a=>if h:∃ x,x ∈ xs∧enc x=a then some (out (Classical.choose h)) else none
 have hF:∀ x ∈ xs,F (enc x)=some (out x):=fun x hx=>by
  have h:∃ y,y ∈ xs∧enc y=enc x:=⟨x,hx,rfl⟩
  show (if h:∃ y,y ∈ xs∧enc y=enc x then some (out (Classical.choose h)) else none)=_
  rw [dif_pos h,inj _ _ (Classical.choose_spec h).2]
 have ef:∀ l:List α,(∀ x ∈ l,x ∈ xs)→(l.map enc).filterMap F=l.map out:=by
  intro l
  induction l with
  | nil=>intro _;rfl
  | cons x r ih =>
   intro h
   simp only [List.map_cons,List.filterMap_cons,hF x (h x (by simp)),ih fun y hy=>h y (by simp [hy])]
 have q:=zja (n:=n) (js:=js) (fi:=fi) (g:=g) (c:=yesM) (e:=e) (ρ:=ρ) (Ω:=Ω) (Ω0:=Ω0) (S:=S) F P h0 hok hP (by rw [hS];simpa using hl) (fun x hx ρ hp ys=>by
  rw [hS] at hx
  obtain ⟨y,hy,rfl⟩:=List.mem_map.mp hx
  obtain ⟨ρ1,h1,h2,h3⟩:=step y hy ρ hp ys
  exact ⟨ρ1,h1,h2, .inl ⟨out y,hF y hy,by simp [yesM],h3⟩⟩) (by
  rw [hS,ef xs fun _ h=>h]
  exact zeO fun a ha=>by obtain ⟨x,hx,rfl⟩:=List.mem_map.mp ha;exact hc x hx)
 rw [hS,ef xs fun _ h=>h] at q
 exact q
end M
namespace M
open PySem L2 V2
end M
namespace M
open PySem L2 V2
end M
namespace M
open PySem L2 V2
theorem zqb {f:Ev→Mo (List A)} {ρ:Ev} {Ω Ω':Sto} {i j:Int} (h:f ρ Ω=some (.ok [.int i, .int j],Ω')) (hs:zbx i∧zbx j):zl2 f ρ Ω=some (.ok (zc8 i (j - i).toNat),Ω'):=by
 unfold zl2
 rw [zd1 h]
 show mb (chk (zbx i∧zbx j)) _ Ω'=_
 rw [zmH _ hs]
 rfl
theorem zhG (x0 x1 x2 x3 x4 x5 x6 x7:A):atI [x0,x1,x2,x3,x4,x5,x6,x7] 4=some x4:=rfl
theorem zhP (x0 x1 x2 x3 x4 x5 x6 x7:A):atI [x0,x1,x2,x3,x4,x5,x6,x7] 5=some x5:=rfl
theorem zg3 (x0 x1 x2 x3 x4 x5 x6 x7:A):atI [x0,x1,x2,x3,x4,x5,x6,x7] 6=some x6:=rfl
theorem zhx (x0 x1 x2 x3 x4 x5 x6 x7:A):atI [x0,x1,x2,x3,x4,x5,x6,x7] 7=some x7:=rfl
theorem zpZ {n:Int} (h0 : -(10 ^ 60) < n) (h1:n < 10 ^ 60):Few n:=by
 unfold Few
 have:((10 ^ 60:Nat):Int)=(10:Int) ^ 60:=by decide
 omega
end M
namespace L2
open PySem PySem.Spec PyProof.Rows
def zmK (scope:Scope):Bool:=(scope.kind == .function) && scope.names.all fun y=>y.2 != .cell && (y.2 != .free && (y.2 != .local || scope.names.lookup y.1 == some .local))
theorem LcOk.of0 {X:Cx} {scope:Scope} {ls:List Str} (ok:zmK scope=true):LcOk X scope ls []:=by
 unfold zmK at ok
 rw [Bool.and_eq_true,List.all_eq_true] at ok
 obtain ⟨h1,h2⟩:=ok
 have hl:∀ y ∈ scope.names,y.2 ≠ .cell∧y.2 ≠ .free∧(y.2 = .local→scope.names.lookup y.1=some .local):=fun y hy=>by
  have:=h2 y hy
  rw [Bool.and_eq_true,Bool.and_eq_true,Bool.or_eq_true] at this
  refine ⟨by simpa using this.1,by simpa using this.2.1,fun e=>?_⟩
  rcases this.2.2 with z | z
  ·simp [e] at z
  ·simpa using z
 refine ⟨by simpa using h1,fun y hy=>(hl y hy).1,fun y hy=>(hl y hy).2.2,fun y hy hf=>?_,fun j hj=>?_⟩
 ·exact absurd hf (hl y hy).2.1
 ·simp at hj
end L2
namespace V2
open PySem PySem.Spec PyProof.Rows L2
end V2
namespace L2
open PySem
end L2
namespace L2
open PySem
end L2
namespace V2
open PySem PySem.Spec PyProof.Rows L2
section
variable {X:Cx} {W:WX} {pos:Pos}
end
end V2
namespace L2
open PySem PySem.Spec PyProof.Rows
section
variable {X:Cx}
theorem zj6 {e a:Expr} {te ta:TE} {p2 pos:Pos} (he:PE X e te) (ha:PE X a ta) (hgo:∀ v r,letTemporaryGo e v r=pure ():=by intros;rfl) :
  PE X (.Subscript e (.Slice none (some a) none p2) pos) (fun σ H Q=>te σ H fun x H1=>∃ z,x = .str z∧z.length ≤ sizeLine∧ta σ H1 fun y H2=>∃ i,y = .int i∧Q (.str (Txt.slice z none (some i))) H2):=by
 intro pins s σ H Q I h
 refine Subscript_ (thn (he pins s σ H _ I h) fun v s1 ⟨x,H1,I1,r1,z,ez,hz,q1⟩=>?_)
 subst ez
 obtain ⟨t,rfl⟩:=r1
 refine wpAny_Slice ?_
 rw [evalPart_none]
 refine wpAny_pure ?_
 rw [evalPart_some]
 refine thn (ha pins s1 σ H1 _ I1 q1) fun vl s2 ⟨y,H2,I2,r2,i,ei,q⟩=>?_
 subst ei
 obtain ⟨ui,rfl⟩:=r2
 refine wpAny_pure ?_
 obtain ⟨m,hm,F⟩:=V2.Inv.frm I2
 exact slice_strN_ns F ze3 (fun h' t' k F' N'=>⟨.str _,H2,V2.Inv.zkC I2 hm F' (V2.Inv.led I2 F' N' fun p hp=>hp),⟨_,rfl⟩,q⟩) (by with_unfolding_all rfl) (hgo _) hz
def repS (z:Str) (n:Nat):Str:=⟨List.foldl (fun x1 x2=>x1 ++ x2) #[] (List.replicate n z.cps)⟩
theorem zhI (z:Str) (n:Nat):(repS z n).cps.toList=(List.replicate n z.cps.toList).flatten:=by
 have key:∀ (n:Nat) (acc:Array Nat),(List.foldl (fun x1 x2=>x1 ++ x2) acc (List.replicate n z.cps)).toList=acc.toList ++ (List.replicate n z.cps.toList).flatten:=by
  intro n
  induction n with
  | zero=>intro acc;simp
  | succ n ih=>intro acc;rw [List.replicate_succ,List.foldl_cons,ih,List.replicate_succ,List.flatten_cons];simp
 have:=key n #[]
 simpa [repS] using this
theorem zma (z:Str) (n:Nat):(repS z n).length=z.length * n:=by
 show (repS z n).cps.size=_
 rw [← Array.length_toList,zhI]
 simp [Str.length,Nat.mul_comm]
theorem zna:OpR X (binaryOp .Mult) (fun x y H Q=>∃ z n,x = .str z∧y = .int n∧1 < n∧n ≤ 1000∧0 < z.length∧z.length ≤ 1000∧Q (.str (repS z n.toNat)) H):=by
 intro pins s σ H x y v u Q I rx ry h
 obtain ⟨z,n,rfl,rfl,h1,h2,h3,h4,q⟩:=h
 obtain ⟨t,rfl⟩:=rx
 obtain ⟨t',rfl⟩:=ry
 have hm:z.length * n.toNat ≤ 1000 * 1000:=Nat.mul_le_mul h4 (by omega)
 refine PySem.P.mul_str (by simp;omega) (fun _ _=>?_) (fun _ _=>?_) ?_
 ·have:(9223372036854775807:Int) / n ≥ 9223372036854775807 / 1000:=by
   have e:(9223372036854775807 / 1000:Int) * n ≤ 9223372036854775807:=by
    have:(9223372036854775807 / 1000:Int) * n ≤ (9223372036854775807 / 1000:Int) * 1000:=Int.mul_le_mul_of_nonneg_left h2 (by decide)
    omega
   exact (Int.le_ediv_iff_mul_le (by omega)).mpr e
  have e2:((2:Int) ^ 63 - 1)=9223372036854775807:=by decide
  rw [e2]
  omega
 ·unfold Builtin.Str.tooLong
  rw [decide_eq_false_iff_not,sizeLine_eq]
  omega
 ·rw [if_neg (by omega),if_neg (by simp;omega)]
  exact ⟨by
   show (repS z n.toNat).length ≤ _
   rw [zma,sizeLine_eq];omega, .str _,H,I.tok _,⟨_,rfl⟩,q⟩
def PE1 (X:Cx) (e:Expr) (t:TE):Prop:=∀ (pins:List (Addr × Obj)) (s:Shared) (σ:St) (H:Hp) (Q:VK),1 ≤ s.toks→Inv X pins σ H s→t σ H Q→wpAny (model X.prog X.w) X.A (eval e X.env) (EP X pins σ Q) X.xe s
def PS1 (X:Cx) (st:Stmt) (t:TS):Prop:=∀ (pins:List (Addr × Obj)) (s:Shared) (σ:St) (H:Hp) (D:Ends),1 ≤ s.toks→Inv X pins σ H s→t D σ H→wpAny (model X.prog X.w) X.A (exec st X.env) (SP X pins D) X.xe s
def PSs1 (X:Cx) (st:List Stmt) (t:TS):Prop:=∀ (pins:List (Addr × Obj)) (s:Shared) (σ:St) (H:Hp) (D:Ends),1 ≤ s.toks→Inv X pins σ H s→t D σ H→wpAny (model X.prog X.w) X.A (execs st X.env) (SP X pins D) X.xe s
theorem zqZ {i:Nat} {x z:Str} {j:Nat} {pos pos' pc:Pos} {rest:List Stmt} {u:TS} (hN:X.N.Nodup) (hi:X.N[i]? = some x) (hx:Loc X.env.scope x) (h2:PSs1 X rest u) (hs:swapsWith (.Constant (.str z) j pc) (some (.Name x pos')) pos.line X.env=pure false) (hf:X.fn x=true∨X.env.scope.names.lookup x=some .local) :
  PSs X (.Assign [.Name x pos'] (.Constant (.str z) j pc) pos :: rest) (tSeq (tAsg (tC (.str z)) (zl4 i)) u):=by
 intro pins s σ H D I h
 refine wpAny_execs_cons (wpAny_Assign_Name (Calls.Constant_str ?_) hs)
 refine wpAny_with_toks (n:=1) (Nat.le_add_left _ _) ?_
 exact zdE (v := .str z) (I.tok _) hN hi hx ⟨_,rfl⟩ (fun s2 I2 ht=>h2 pins s2 _ H D ht I2 h) hf
theorem zkc {st:Stmt} {rest:List Stmt} {t u:TS} (h1:PS X st t) (h2:PSs1 X rest u):PSs1 X (st :: rest) (tSeq t u):=by
 intro pins s σ H D ht I h
 refine wpAny_execs_cons (wpAny_with_toks ht (wpAny_mono (h1 pins s σ H { D with nx:=u D } I h) (fun f s1 q ht1=>?_) fun _ _ q _=>q))
 cases f with
 | next =>
  obtain ⟨σ',H',I',q⟩:=q
  exact h2 pins s1 σ' H' D ht1 I' q
 | ret v=>exact q
 | brk=>exact q
 | cont=>exact q
theorem zjV {st:Stmt} {rest:List Stmt} {t u:TS} (h1:PS1 X st t) (h2:PSs X rest u):PSs1 X (st :: rest) (tSeq t u):=by
 intro pins s σ H D ht I h
 refine wpAny_execs_cons (thn (h1 pins s σ H { D with nx:=u D } ht I h) fun f s1 q=>?_)
 cases f with
 | next =>
  obtain ⟨σ',H',I',q⟩:=q
  exact h2 pins s1 σ' H' D I' q
 | ret v=>exact q
 | brk=>exact q
 | cont=>exact q
theorem zok {i:Nat} {x:Str} {e:Expr} {te:TE} {pos pos':Pos} (hN:X.N.Nodup) (hi:X.N[i]? = some x) (hx:Loc X.env.scope x) (he:PE1 X e te) (hs:swapsWith e (some (.Name x pos')) pos.line X.env=pure false) (hf:X.fn x=true∨X.env.scope.names.lookup x=some .local) :
  PS1 X (.Assign [.Name x pos'] e pos) (tAsg te (zl4 i)):=by
 intro pins s σ H D ht I h
 refine wpAny_Assign_Name (thn (he pins s σ H _ ht I h) fun v s1 ⟨y,H1,I1,r1,q1⟩=>?_) hs
 exact zdE I1 hN hi hx r1 (fun s2 I2=>⟨_,H1,I2,q1⟩) hf
theorem zh9 {o:Expr} {to:TE} {y z:Str} {j1 j2:Nat} {p1 p2 apos cpos:Pos} (ho:PE X o to) (hyz:(y == z)=false)
  (hbase:attributeBase o "replace" X.env (eval o X.env)=eval o X.env)
  (hfew:((backTo cpos (starEach [.Constant (.str y) j1 p1, .Constant (.str z) j2 p2] X.env)).all (fun x=>!x.1) && (backToKw cpos (keywordEach [] X.env)).all (fun x=>x.1.isSome)
   && decide ([Expr.Constant (.str y) j1 p1,Expr.Constant (.str z) j2 p2].length + ([] : List Keyword).length + (if ([] : List Keyword).isEmpty then 0 else 1) < 30))=true)
  (hline:(apos.endLine == cpos.line)=true) :
  PE1 X (.Call (.Attribute o "replace" apos) [.Constant (.str y) j1 p1, .Constant (.str z) j2 p2] [] cpos) (fun σ H Q=>to σ H fun v H1=>∃ x,v = .str x∧x.length + (x.length + 1) * z.length ≤ 16777216∧Q (.str (Txt.replace x y z)) H1):=by
 intro pins s σ H Q ht I h
 refine wpAny_Call_method_late hbase hfew hline rfl (wpAny_with_toks ht (wpAny_mono (ho pins s σ H _ I h) (fun v s1 q ht1=>?_) fun _ _ q _=>q))
 obtain ⟨v',H1,I1,r1,x,rfl,hx,q⟩:=q
 obtain ⟨t,rfl⟩:=r1
 refine ⟨"str", "str.replace",F.plainAttrs_str,F.slot_str_replace,F.type_str_replace,rfl,(fun a e=>nomatch e),?_⟩
 refine Calls.callWith_builtin rfl (Calls.evalArgs_plain ?_)
 refine Calls.spliced_cons (Calls.Constant_str (k:=j1) (pos:=p1) (Calls.spliced_cons (Calls.Constant_str (k:=j2) (pos:=p2) (Calls.spliced_nil ?_))))
 refine SC.replace (by show s1.toks ≠ 0;omega) (by show s1.toks + 1 ≠ 0;omega) (by show s1.toks ≠ s1.toks + 1;omega) hyz hx fun t' k=>⟨.str _,H1,I1.tok _,⟨_,rfl⟩,q⟩
end
end L2
namespace V2
open PySem PySem.Spec PyProof.Rows L2
section
variable {X:Cx} {W:WX} {e a b:Expr} {pos:Pos} {fa fb:Ev→Mo A}
@[simp] def zm3:A→A→Mo A
 | .str i, .str j=>ret (.bl (!zjI i j))
 | _,_=>stuck
theorem zpe:OpOk X W (compareOp .NotIn) zm3:=by
 refine ⟨_,zg5,?_⟩
 intro G ι Ω H σ x y a b Q w d1 d2 h
 unfold zm3 at h
 split at h
 ·simp only [Den] at d1 d2
  exact ⟨_,_,d1,d2,zax w (by simp only [Den,zjI]) h⟩
 ·exact False.elim h
@[simp] def zjt:A→A→Mo A
 | .str z, .int n=>mb (chk (1 < n∧n ≤ 1000∧0 < z.length∧z.length ≤ 1000)) fun _=>ret (.str (repS z n.toNat))
 | _,_=>stuck
theorem zoA:OpOk X W (binaryOp .Mult) zjt:=by
 refine ⟨_,zna,?_⟩
 intro G ι Ω H σ x y a b Q w d1 d2 h
 unfold zjt at h
 split at h
 ·simp only [Den] at d1 d2
  obtain ⟨⟨h1,h2,h3,h4⟩,h⟩:=Post.chk h
  exact ⟨_,_,d1,d2,h1,h2,h3,h4,zax w (by simp only [Den]) h⟩
 ·exact False.elim h
@[simp] def vSlU (fe fi:Ev→Mo A):Ev→Mo A:=fun ρ=>mb (fe ρ) fun o=>match o with
 | .str z=>mb (chk (z.length ≤ sizeLine)) fun _=>mb (fi ρ) fun i=>match i with
  | .int i=>ret (.str (Txt.slice z none (some i)))
  | _=>stuck
 | _=>stuck
theorem zfR {p2:Pos} (he:VE X W e fa) (ha:VE X W a fb) (hgo:∀ v r,letTemporaryGo e v r=pure ():=by intros;rfl):VE X W (.Subscript e (.Slice none (some a) none p2) pos) (vSlU fa fb):=by
 obtain ⟨t,p1,s1⟩:=he
 obtain ⟨u,p2,s2⟩:=ha
 refine ⟨_,zj6 p1 p2 hgo,fun G ι Ω H σ ρ Q w r h=>?_⟩
 refine s1 G ι Ω H σ ρ _ w r (Post.mb h fun x Ω1 v H1 G1 ι1 x1 w1 d1 h1=>?_)
 cases x with
 | str z =>
  simp only [Den] at d1;subst d1
  obtain ⟨hz,h1⟩:=Post.chk h1
  refine ⟨z,rfl,hz,s2 G1 ι1 Ω1 H1 σ ρ _ w1 (r.ext x1) (Post.mb h1 fun a' Ω2 y H2 G2 ι2 x2 w2 d2 h2=>?_)⟩
  cases a' with
  | int i =>
   simp only [Den] at d2
   exact ⟨i,d2,zax w2 (by simp only [Den]) h2⟩
  | _=>exact False.elim h2
 | _=>exact False.elim h1
@[simp] def zpj (y z:Str) (fo:Ev→Mo A):Ev→Mo A:=fun ρ=>mb (fo ρ) fun o=>match o with
 | .str x=>mb (chk (x.length + (x.length + 1) * z.length ≤ 16777216)) fun _=>ret (.str (Txt.replace x y z))
 | _=>stuck
def VE1 (X:Cx) (W:WX) (e:Expr) (f:Ev→Mo A):Prop:=∃ t,PE1 X e t∧Sim X.K (Den X.K) W t f
def VS1 (X:Cx) (W:WX) (st:Stmt) (f:MS):Prop:=∃ t,PS1 X st t∧SimS X.K W t f
def VSs1 (X:Cx) (W:WX) (st:List Stmt) (f:MS):Prop:=∃ t,PSs1 X st t∧SimS X.K W t f
theorem zir {o:Expr} {fo:Ev→Mo A} {y z:Str} {j1 j2:Nat} {p1 p2 apos cpos:Pos} (ho:VE X W o fo) (hyz:(y == z)=false:=by decide)
  (hbase:attributeBase o "replace" X.env (eval o X.env)=eval o X.env:=by rfl)
  (hfew:((backTo cpos (starEach [.Constant (.str y) j1 p1, .Constant (.str z) j2 p2] X.env)).all (fun x=>!x.1) && (backToKw cpos (keywordEach [] X.env)).all (fun x=>x.1.isSome)
   && decide ([Expr.Constant (.str y) j1 p1,Expr.Constant (.str z) j2 p2].length + ([] : List Keyword).length + (if ([] : List Keyword).isEmpty then 0 else 1) < 30))=true:=by rfl)
  (hline:(apos.endLine == cpos.line)=true:=by rfl):VE1 X W (.Call (.Attribute o "replace" apos) [.Constant (.str y) j1 p1, .Constant (.str z) j2 p2] [] cpos) (zpj y z fo):=by
 obtain ⟨t,p,s⟩:=ho
 refine ⟨_,zh9 p hyz hbase hfew hline,fun G ι Ω H σ ρ Q w r h=>?_⟩
 refine s G ι Ω H σ ρ _ w r (Post.mb h fun x Ω1 v H1 G1 ι1 x1 w1 d1 h1=>?_)
 cases x with
 | str x =>
  simp only [Den] at d1;subst d1
  obtain ⟨hz,h1⟩:=Post.chk h1
  exact ⟨x,rfl,hz,zax w1 (by simp only [Den]) h1⟩
 | _=>exact False.elim h1
theorem zqz {i:Nat} {x z:Str} {j:Nat} {pos' pc:Pos} {rest:List Stmt} {g:MS} (hN:X.N.Nodup) (hi:X.N[i]? = some x) (hx:Loc X.env.scope x) (h2:VSs1 X W rest g) (hs:swapsWith (.Constant (.str z) j pc) (some (.Name x pos')) pos.line X.env=pure false:=by rfl) (hf:X.fn x=true∨X.env.scope.names.lookup x=some .local:=by first | exact .inl rfl | exact .inr rfl | assumption) :
  VSs X W (.Assign [.Name x pos'] (.Constant (.str z) j pc) pos :: rest) (sSeq (sAsg (cS z) (gN i)) g):=by
 obtain ⟨u,p2,s2⟩:=h2
 obtain ⟨t,p1,s1⟩:=zar (X:=X) (W:=W) (x:=z) (j:=j) (pos:=pc)
 exact ⟨_,zqZ hN hi hx p2 hs hf,zfw (zig (fun G ι Ω H σ ρ Q w r h=>by exact zax w (by simp only [Den]) h) fun _ _ _ _ _ _ _ _ _ w r d h=>zhZ w (r.set i d) h) s2⟩
theorem zkE {st:Stmt} {rest:List Stmt} {f g:MS} (h1:VS X W st f) (h2:VSs1 X W rest g):VSs1 X W (st :: rest) (sSeq f g):=by
 obtain ⟨t,p1,s1⟩:=h1
 obtain ⟨u,p2,s2⟩:=h2
 exact ⟨_,zkc p1 p2,zfw s1 s2⟩
theorem zkL {st:Stmt} {rest:List Stmt} {f g:MS} (h1:VS1 X W st f) (h2:VSs X W rest g):VSs1 X W (st :: rest) (sSeq f g):=by
 obtain ⟨t,p1,s1⟩:=h1
 obtain ⟨u,p2,s2⟩:=h2
 exact ⟨_,zjV p1 p2,zfw s1 s2⟩
theorem znM {i:Nat} {x:Str} {pos':Pos} {fe:Ev→Mo A} (hN:X.N.Nodup) (hi:X.N[i]? = some x) (hx:Loc X.env.scope x) (he:VE1 X W e fe) (hs:swapsWith e (some (.Name x pos')) pos.line X.env=pure false:=by rfl) (hf:X.fn x=true∨X.env.scope.names.lookup x=some .local:=by first | exact .inl rfl | exact .inr rfl | assumption) :
  VS1 X W (.Assign [.Name x pos'] e pos) (sAsg fe (gN i)):=by
 obtain ⟨t,p1,s1⟩:=he
 exact ⟨_,zok hN hi hx p1 hs hf,zig s1 fun _ _ _ _ _ _ _ _ _ w r d h=>zhZ w (r.set i d) h⟩
end
end V2
namespace M
open PySem V2
noncomputable def zcn (p:Addr) (e:Exc):MS :=
 (sSeq (sIf (vOrT (zgV (zaI (vCl (zkW p (xtab ["NoText"] ["RankError", "NoRow", "NoPlace", "NoPouch", "NoSize", "Wrong", "NoTimes", "Unlike", "NoText"] e.cls) (xtt ["NoText"] e.cls)) (zac (vVar 0) (zac (cG "RankError") a0))))) (zgV (zaI (vCl (zkW p (xtab ["NoText"] ["RankError", "NoRow", "NoPlace", "NoPouch", "NoSize", "Wrong", "NoTimes", "Unlike", "NoText"] e.cls) (xtt ["NoText"] e.cls)) (zac (vVar 0) (zac (cT "ValueError") a0))))))
   (sRet (cB false))
   sNx)
  (sRet (vNot (vCl (zkW p (xtab ["NoText"] ["RankError", "NoRow", "NoPlace", "NoPouch", "NoSize", "Wrong", "NoTimes", "Unlike", "NoText"] e.cls) (xtt ["NoText"] e.cls)) (zac (vVar 0) (zac (vTup (zac (cG "NoPlace") (zac (cG "NoPouch") (zac (cG "NoRow") (zac (cG "NoSize") (zac (cG "NoTimes") (zac (cG "Unlike") (zac (cG "Wrong") a0)))))))) a0))))))
noncomputable def zbg (p:Addr) (e:Exc):List A→Mo A:=fnF 1 (zcn p e)
noncomputable def zbS:MS :=
 (sSeq (sAsg (cS " !\"#$&'()*+,-./:;<=>?@ABCXYZ[]^_abcxyz{|}~\t") (gN 2))
  (sSeq (sAsg (vOp (gMod) (vOp (gDiv) (vVar 1) (cI 8)) (vOp (gAdd false) (vCl zgJ (zac (vVar 0) a0)) (cI 1))) (gN 3))
  (sSeq (sAsg (zpj "-" "" (vVar 0)) (gN 4))
  (sSeq (sAsg (vLst false (zac (vOp (zcR false) (cS "0") (vVar 0)) (zac (cS "-0") (zac (vOp (zcR false) (cS "+") (vVar 0)) (zac (vOp (zjt) (cS "1") (cI 61)) (zac (vOp (zcR false) (vOp (zcR false) (vSlU (vVar 0) (vVar 3)) (vOp gIxS (vVar 2) (vOp (gMod) (vOp (gDiv) (vVar 1) (cI 512)) (vCl zgJ (zac (vVar 2) a0))))) (vSlS (vVar 0) (vVar 3))) (zac (cS "") a0))))))) (gN 5))
  (sRet (vOp gIx (vOp (gAdd false) (vVar 5) (vLst false (zac (cS "-") (zac (vOp (zcR false) (vOp (zcR false) (vSlU (vVar 4) (cI 1)) (cS "-")) (vVar 4)) a0)))) (vOp (gMod) (vVar 1) (cI 8))))))))
noncomputable def zbT:List A→Mo A:=fnF 6 zbS
noncomputable def zck:Ev→Mo A :=
 (vLC false 1 [] (zhU (vVar 1)) (gN 0) (zaI (vOp zm3 (vVar 0) (cS "0123456789"))) (vVar 0))
noncomputable def zbw:MS :=
 (sSeq (sAsg (vVar 0) (gN 1))
  (sSeq (sIf (zaI (vOp gEq (vSlU (vVar 0) (cI 1)) (cS "-")))
   (sAsg (vSlS (vVar 0) (cI 1)) (gN 1))
   sNx)
  (sSeq (sIf (vOrT (zaI (vOp gEq (vVar 1) (cS ""))) (vOrT (zaI (vOp gGt (vCl zgJ (zac (vVar 1) a0)) (cI 60))) (zmS (zaI (vOp gNe (vVar 0) (cS "0"))) (zaI (vOp gEq (vOp gIxS (vVar 1) (cI 0)) (cS "0"))))))
   (sRet (cB false))
   sNx)
  (sRet (vOp gEq zck (vLst false a0))))))
noncomputable def zbv:List A→Mo A:=fnF 2 zbw
noncomputable def zb6:MS :=
 (sSeq (sAsg (vBS (zda false) (vVar 0) (zac (cS " ") a0)) (gN 2))
  (sSeq (sAsg (vOp (gMod) (vOp (gDiv) (vVar 1) (cI 8)) (vCl gLen (zac (vVar 2) a0))) (gN 3))
  (sSeq (sAsg (vOp (gMod) (vVar 1) (cI 8)) (gN 4))
  (sSeq (sIf (zaI (vOp gEq (vVar 4) (cI 0)))
   (sRet (vOp (zcR false) (cS " ") (vVar 0)))
   sNx)
  (sSeq (sIf (zaI (vOp gEq (vVar 4) (cI 1)))
   (sRet (vOp (zcR false) (vVar 0) (cS " ")))
   sNx)
  (sSeq (sIf (zaI (vOp gEq (vVar 4) (cI 2)))
   (sRet (vBS zdo (cS " ") (zac (vOp (gAdd false) (vOp (gAdd false) (vSl false (vVar 2) sl0 (zbJ (vVar 3))) (vLst false (zac (cS "") a0))) (vSl false (vVar 2) (zbJ (vVar 3)) sl0)) a0)))
   sNx)
  (sSeq (sIf (zaI (vOp gEq (vVar 4) (cI 3)))
   (sRet (vBS zdo (cS " ") (zac (vOp (gAdd false) (vOp (gAdd false) (vSl false (vVar 2) sl0 (zbJ (vVar 3))) (vLst false (zac (cS "7") a0))) (vSl false (vVar 2) (zbJ (vVar 3)) sl0)) a0)))
   sNx)
  (sSeq (sIf (zaI (vOp gEq (vVar 4) (cI 4)))
   (sRet (vBS zdo (cS " ") (zac (vOp (gAdd false) (vSl false (vVar 2) sl0 (zbJ (vVar 3))) (vSl false (vVar 2) (zbJ (vOp (gAdd false) (vVar 3) (cI 1))) sl0)) a0)))
   sNx)
  (sRet (vBS zdo (cS " ") (zac (vOp (gAdd false) (vOp (gAdd false) (vSl false (vVar 2) sl0 (zbJ (vVar 3))) (vLst false (zac (vCl (zaA 2 zbT) (zac (vOp gIx (vVar 2) (vVar 3)) (zac (vOp (gDiv) (vVar 1) (cI 32)) a0))) a0))) (vSl false (vVar 2) (zbJ (vOp (gAdd false) (vVar 3) (cI 1))) sl0)) a0)))))))))))
noncomputable def zb7:List A→Mo A:=fnF 5 zb6
noncomputable def zbV:Ev→Mo A :=
 (vLC false 1 [] (vSeq (vVar 4)) (gN 0) (zgV (zaI (vCl (noX (zaA 1 zbv)) (zac (vVar 0) a0)))) (vVar 0))
noncomputable def zay:MS :=
 (sSeq (sAsg (vBS (zda false) (vVar 3) (zac (cS " ") a0)) (gN 4))
   (sIf (vOrT (zaI (vOp gNe (vCl gLen (zac (vVar 4) a0)) (vVar 1))) (zaI (vOp gNe zbV (vLst false a0))))
    (sRet (vVar 2))
    sNx))
noncomputable def za2:MS :=
 (sSeq (sFor (zkw (vBS (zda false) (vVar 0) (zac (cS "\n") a0))) (zf1 2 (zbX (gN 2) (zbX (gN 3) zgH))) zay)
  (sRet cN))
noncomputable def za1:List A→Mo A:=fnF 5 za2
noncomputable def zb3:Ev→Mo A :=
 (vLC false 1 [] (vSeq (vVar 5)) (gN 0) yesM (vCl (noX (zaA 1 zc3)) (zac (vVar 0) a0)))
noncomputable def zcN:Ev→Mo A :=
 (vLC false 1 [] (vSeq (vVar 5)) (gN 0) yesM (vCl zn3 (zac (vVar 0) a0)))
noncomputable def zaz:MS :=
 (sSeq (sAsg (vBS (zda false) (vVar 4) (zac (cS " ") a0)) (gN 5))
   (sSeq (sIf (vOrT (zaI (vOp gNe (vCl gLen (zac (vVar 5) a0)) (vVar 1))) (zgV (zaI (vCl zkj (zac zb3 a0)))))
    (zjZ "NoText" "row" (zac (vVar 3) a0))
    sNx)
   (sExp (vBM zdq (vVar 2) (zac (vCl zoj (zac zcN a0)) a0)))))
noncomputable def zaW:MS :=
 (sSeq (sAsg (vLst true a0) (gN 2))
  (sSeq (sFor (zkw (vBS (zda false) (vVar 0) (zac (cS "\n") a0))) (zf1 2 (zbX (gN 3) (zbX (gN 4) zgH))) zaz)
  (sRet (vFrz 2))))
noncomputable def zaq:List A→Mo A:=fnF 6 zaW
noncomputable def zcF:Ev→Mo A :=
 (vLC false 1 [4] (zgZ (zac (vVar 1) a0)) (gN 0) yesM (vCl znF (zac (vCl (noX (zaA 1 zaJ)) (zac (vCl (noX (zaA 2 zaH)) (zac (vVar 1) (zac (vVar 0) a0))) a0)) a0)))
noncomputable def za8:MS :=
 (sSeq (sAsg (vCl (zaA 2 zaH) (zac (vCl (zaA 2 za3) (zac (vVar 0) (zac (vVar 3) a0))) (zac (vVar 3) a0))) (gN 4))
   (sExp (vBM zdq (vVar 2) (zac (vBS zdo (cS " ") (zac zcF a0)) a0))))
noncomputable def zc6:MS :=
 (sSeq (sAsg (vLst true a0) (gN 2))
  (sSeq (sFor (zl2 (zac (cI 3) (zac (vCl znk (zac (vCl gLen (zac (vVar 0) a0)) (zac (cI 23) a0))) a0))) (gN 3) za8)
  (sRet (vFrz 2))))
noncomputable def zc0:List A→Mo A:=fnF 5 zc6
noncomputable def zbj:MS :=
 (sSeq (sAsg (vOp (gMod) (vOp (gDiv) (vVar 1) (cI 8)) (vCl znS (zac (cI 1) (zac (vCl gLen (zac (vVar 0) a0)) a0)))) (gN 2))
  (sSeq (sAsg (vOp (gMod) (vVar 1) (cI 8)) (gN 3))
  (sSeq (sIf (vOrT (zaI (vOp gEq (vVar 3) (cI 0))) (zaI (vOp gEq (vVar 0) (vLst false a0))))
   (sRet (vOp (gAdd false) (vOp (gAdd false) (vSl false (vVar 0) sl0 (zbJ (vVar 2))) (vLst false (zac (cS "") a0))) (vSl false (vVar 0) (zbJ (vVar 2)) sl0)))
   sNx)
  (sSeq (sIf (zaI (vOp gEq (vVar 3) (cI 1)))
   (sRet (vOp (gAdd false) (vVar 0) (vLst false (zac (cS "") a0))))
   sNx)
  (sSeq (sIf (zaI (vOp gEq (vVar 3) (cI 2)))
   (sRet (vSl false (vVar 0) sl0 (zbJ (cI 1))))
   sNx)
  (sRet (vOp (gAdd false) (vOp (gAdd false) (vSl false (vVar 0) sl0 (zbJ (vVar 2))) (vLst false (zac (vCl (zaA 2 zb7) (zac (vOp gIx (vVar 0) (vVar 2)) (zac (vOp (gDiv) (vVar 1) (cI 256)) a0))) a0))) (vSl false (vVar 0) (zbJ (vOp (gAdd false) (vVar 2) (cI 1))) sl0))))))))
noncomputable def zbo:List A→Mo A:=fnF 4 zbj
noncomputable def zcs:MS :=
 (sSeq (sAsg (vCl (zaA 2 zaq) (zac (vVar 0) (zac (cI 3) a0))) (gN 1))
  (sSeq (sAsg (vOp gIx (vVar 1) (cI 0)) (gN 2))
  (sRet (vTup (zac (vOp gIx (vVar 2) (cI 0)) (zac (vOp gIx (vVar 2) (cI 1)) (zac (vOp gIx (vVar 2) (cI 2)) (zac (vSl false (vVar 1) (zbJ (cI 1)) sl0) a0))))))))
noncomputable def zdl:List A→Mo A:=fnF 3 zcs
noncomputable def za5:MS :=
 (sSeq (sIf (zaI (vOp gEq (vVar 0) (cS "")))
   (sRet (vLst false a0))
   sNx)
  (sRet (vCl (zaA 2 zaq) (zac (vVar 0) (zac (cI 2) a0)))))
noncomputable def zbp:List A→Mo A:=fnF 1 za5
noncomputable def zaN:Addr→Addr→Exc→MS :=
 fun p d e=>(sAsg (vLst false (zac (gXAt p d e ["NoText"] "row" (vVar 4)) (zac (vCl (noX (zaA 1 (zbg p e))) (zac (vVar 4) a0)) a0))) (gN 3))
noncomputable def zah:MS :=
 (sIf (zaI (vOp gEq (vVar 1) (cI 3)))
    (sAsg (vCl (zaA 1 zdl) (zac (vVar 0) a0)) (gN 2))
    (sAsg (vCl (zaA 1 zbp) (zac (vVar 0) a0)) (gN 2)))
noncomputable def zaS:MS :=
 (sSeq (sAsg cN (gN 2))
  (sSeq (sAsg cN (gN 3))
  (sSeq (zfr 4 (fun z=>xtab ["NoText"] ["RankError", "NoRow", "NoPlace", "NoPouch", "NoSize", "Wrong", "NoTimes", "Unlike", "NoText"] z "NoText" == some true) zah zaN)
  (sSeq (sAsg (vCl (noX (zaA 2 za1)) (zac (vVar 0) (zac (vVar 1) a0))) (gN 5))
  (sSeq (sIf (zmS (zaI (vOp gEq (vVar 0) (cS ""))) (zaI (vOp gEq (vVar 1) (cI 2))))
   (sRet (vAnd (vOp (gIsN false) (vVar 3) cN) (vOp gEq (vVar 2) (vLst false a0))))
   sNx)
  (sSeq (sIf (zaI (vOp (gIsN true) (vVar 5) cN))
   (sRet (vAnd (vOp gEq (vVar 3) (vLst false (zac (vVar 5) (zac (cB true) a0)))) (vNot (vCl gIs1 (zac (vOp gIx (vVar 3) (cI 0)) (zac (cT "bool") a0))))))
   sNx)
  (sSeq (sIf (zaI (vOp (gIsN true) (vVar 3) cN))
   (sRet (cB false))
   sNx)
  (sSeq (sIf (zaI (vOp gEq (vVar 1) (cI 3)))
   (sRet (vAnd (vCl gIs1 (zac (vVar 2) (zac (cT "tuple") a0))) (vAnd (vOp gEq (vCl gLen (zac (vVar 2) a0)) (cI 4)) (vOp gEq (vCl gLen (zac (vOp gIx (vVar 2) (cI 3)) a0)) (vOp (gSub) (vCl gLen (zac (vBS (zda false) (vVar 0) (zac (cS "\n") a0)) a0)) (cI 1))))))
   sNx)
  (sRet (vAnd (vCl gIs1 (zac (vVar 2) (zac (cT "list") a0))) (vOp gEq (vCl gLen (zac (vVar 2) a0)) (vCl gLen (zac (vBS (zda false) (vVar 0) (zac (cS "\n") a0)) a0)))))))))))))
noncomputable def za6:List A→Mo A:=noX (fnF 6 zaS)
noncomputable def zbF:MS :=
 (sAsg (vCl (zaA 2 zbo) (zac (vVar 4) (zac (vCl (zaA 2 zaH) (zac (vCl (zaA 2 za3) (zac (vVar 0) (zac (cI 1) a0))) (zac (vVar 5) a0))) a0))) (gN 4))
noncomputable def zcy:MS :=
 (sIf (vOrT (zgV (zaI (vCl (zaA 2 za6) (zac (vVar 6) (zac (vVar 2) a0))))) (zgV (zaI (vCl (zaA 2 za6) (zac (vVar 6) (zac (vOp (gSub) (cI 5) (vVar 2)) a0))))))
    (sRet (cB false))
    sNx)
noncomputable def zec:MS :=
 (sSeq (sAsg (vCl (zaA 2 za3) (zac (vVar 0) (zac (cI 0) a0))) (gN 1))
  (sSeq (sAsg (vOp (gAdd false) (cI 2) (vOp (gMod) (vVar 1) (cI 2))) (gN 2))
  (sSeq (sAsg (vCl (zaA 2 zc0) (zac (vVar 0) (zac (vVar 2) a0))) (gN 3))
  (sSeq (sIf (zaI (vOp gEq (vVar 3) (vLst false a0)))
   (sAsg (vLst false (zac (vBS zdo (cS " ") (zac (vSl false (vLst false (zac (cS "1") (zac (cS "2") (zac (cS "3") a0)))) sl0 (zbJ (vVar 2))) a0)) a0)) (gN 3))
   sNx)
  (sSeq (sAsg (vVar 3) (gN 4))
  (sSeq (sFor (zgZ (zac (vOp (gMod) (vOp (gDiv) (vVar 1) (cI 2)) (cI 4)) a0)) (gN 5) zbF)
  (sSeq (sFor (vSeq (vLst false (zac (vBS zdo (cS "\n") (zac (vVar 4) a0)) (zac (vBS zdo (cS "\n") (zac (vVar 3) a0)) (zac (vBS zdo (cS "\n") (zac (vVar 4) a0)) (zac (cS "") (zac (cS "\n") a0))))))) (gN 6) zcy)
  (sRet (cB true)))))))))
noncomputable def zhq:List A→Mo A:=fnF 7 zec
end M
namespace M
open PySem L2 V2
def cuts (c:Nat) (l:List Nat):List (List Nat):=(Txt.split (L2S l) ⟨#[c]⟩).map fun p=>p.cps.toList
theorem zgc (c:Nat) (l:List Nat):Txt.split (L2S l) ⟨#[c]⟩ = (cuts c l).map L2S:=by
 unfold cuts
 rw [List.map_map]
 have:(L2S ∘ fun p:Str=>p.cps.toList)=id:=by funext p;exact zhk p
 rw [this,List.map_id]
theorem zmx (c:Nat) (l:List Nat):J c (cuts c l)=l:=by
 have h1:=StrLaws.join_split (L2S l) ⟨#[c]⟩
 rw [zgc,zhY] at h1
 exact zej h1
theorem zh0 (c:Nat) (l:List Nat):cuts c l ≠ []:=by
 have h3:=PyProof.Rows.split_pos (L2S l) ⟨#[c]⟩
 intro z
 have:=congrArg List.length z
 simp [cuts] at this
 rw [this] at h3
 simp at h3
def sumN (xs:List (List Nat)):Nat:=(xs.map List.length).sum
theorem zjd (c:Nat):∀ r:List (List Nat),(r.flatMap fun y=>c :: y).length=sumN r + r.length
 | []=>rfl
 | y :: r=>by
  have:=zjd c r
  simp only [List.flatMap_cons,List.length_append,List.length_cons,this,sumN,List.map_cons,List.sum_cons]
  omega
theorem zi1 (c:Nat) {xs:List (List Nat)} (h:xs ≠ []):(J c xs).length + 1=sumN xs + xs.length:=by
 cases xs with
 | nil=>exact absurd rfl h
 | cons x r =>
  have:=zjd c r
  have e:sumN (x :: r)=x.length + sumN r:=by simp [sumN]
  rw [e,J,List.length_append,this,List.length_cons]
  omega
theorem zh4 (c:Nat) (hc:c < 128):∀ {xs:List (List Nat)},(∀ x ∈ xs,okL x)→okL (J c xs)
 | [],_=>fun a ha=>by simp [J] at ha
 | x :: r,h=>fun a ha=>by
  simp only [J,List.mem_append,List.mem_flatMap,List.mem_cons] at ha
  rcases ha with z | ⟨y,hy,z | z⟩
  ·exact h x (by simp) a z
  ·omega
  ·exact h y (by simp [hy]) a z
theorem zqU {c a:Nat} {x:List Nat}:∀ {xs:List (List Nat)},x ∈ xs→a ∈ x→a ∈ J c xs
 | [],h,_=>by simp at h
 | y :: r,h,ha=>by
  simp only [J,List.mem_append,List.mem_flatMap,List.mem_cons]
  rcases List.mem_cons.mp h with z | z
  ·subst z;exact .inl ha
  ·exact .inr ⟨x,z, .inr ha⟩
theorem zlk {c:Nat} {l x:List Nat} (h:okL l) (hx:x ∈ cuts c l):okL x:=fun a ha=>h a (by rw [← zmx c l];exact zqU hx ha)
theorem zkV {x:List Nat}:∀ {xs:List (List Nat)},x ∈ xs→x.length ≤ sumN xs
 | y :: r,h=>by
  simp only [sumN,List.map_cons,List.sum_cons]
  rcases List.mem_cons.mp h with z | z
  ·subst z;omega
  ·have:=zkV z
   simp only [sumN] at this
   omega
theorem zgK (c:Nat) (l:List Nat):sumN (cuts c l) + (cuts c l).length=l.length + 1:=by
 have:=zi1 c (zh0 c l)
 rw [zmx] at this
 omega
theorem zi7 (c:Nat) (l:List Nat):1 ≤ (cuts c l).length:=by
 have:=zh0 c l
 cases h:cuts c l with
 | nil=>exact absurd h this
 | cons x r=>simp
theorem zlt {c:Nat} {l x:List Nat} (hx:x ∈ cuts c l):x.length ≤ l.length:=by
 have h1:=zkV hx
 have h2:=zgK c l
 have h3:=zi7 c l
 omega
open Classical in
theorem zf4 {α:Type} {n:Nat} {js:List Nat} {fi:Ev→Mo Src} {g:A→MS} {c:Ev→Mo Bool} {e:Ev→Mo A} {ρ:Ev} {Ω Ω0:Sto} {S:Src} (xs:List α) (enc out:α→A) (kp:α→Bool) (P:Ev→Prop) (inj:∀ x y,enc x=enc y→out x=out y∧kp x=kp y)
  (h0:fi ρ Ω=some (.ok S,Ω0)) (hok:∀ ys,S.ok (Ω0 ++ [.lst ys])) (hP:P (lcEv n js ρ)) (hS:S.ds=xs.map enc) (hl:xs.length ≤ 1000000)
  (step:∀ x ∈ xs,∀ ρ,P ρ→∀ ys,∃ ρ1,P ρ1∧g (enc x) ρ (Ω0 ++ [.lst ys])=some (.nx,ρ1,Ω0 ++ [.lst ys])∧c ρ1 (Ω0 ++ [.lst ys])=some (.ok (kp x),Ω0 ++ [.lst ys])∧e ρ1 (Ω0 ++ [.lst ys])=some (.ok (out x),Ω0 ++ [.lst ys]))
  (hc:∀ x ∈ xs,Cl Ω0.length (out x)):vLC false n js fi g c e ρ Ω=some (.ok (.lst ((xs.filter kp).map out)),Ω0):=by
 let F:A→Option A:=fun a=>if h:∃ x,x ∈ xs∧enc x=a then (if kp (Classical.choose h)=true then some (out (Classical.choose h)) else none) else none
 have hF:∀ x ∈ xs,F (enc x)=if kp x=true then some (out x) else none:=fun x hx=>by
  have h:∃ y,y ∈ xs∧enc y=enc x:=⟨x,hx,rfl⟩
  show (if h:∃ y,y ∈ xs∧enc y=enc x then (if kp (Classical.choose h)=true then some (out (Classical.choose h)) else none) else none)=_
  have q:=inj _ _ (Classical.choose_spec h).2
  rw [dif_pos h,q.1,q.2]
 have ef:∀ l:List α,(∀ x ∈ l,x ∈ xs)→(l.map enc).filterMap F=(l.filter kp).map out:=by
  intro l
  induction l with
  | nil=>intro _;rfl
  | cons x r ih =>
   intro h
   have q:=hF x (h x (by simp))
   by_cases hk:kp x=true
   ·rw [if_pos hk] at q
    simp only [List.map_cons,List.filterMap_cons,q,ih fun y hy=>h y (by simp [hy]),List.filter_cons,hk,if_true]
   ·rw [if_neg hk] at q
    simp only [List.map_cons,List.filterMap_cons,q,ih fun y hy=>h y (by simp [hy]),List.filter_cons,if_neg hk]
 have q:=zja (n:=n) (js:=js) (fi:=fi) (g:=g) (c:=c) (e:=e) (ρ:=ρ) (Ω:=Ω) (Ω0:=Ω0) (S:=S) F P h0 hok hP (by rw [hS];simpa using hl) (fun x hx ρ hp ys=>by
  rw [hS] at hx
  obtain ⟨y,hy,rfl⟩:=List.mem_map.mp hx
  obtain ⟨ρ1,h1,h2,h3,h4⟩:=step y hy ρ hp ys
  have q:=hF y hy
  by_cases hk:kp y=true
  ·rw [if_pos hk] at q
   rw [hk] at h3
   exact ⟨ρ1,h1,h2, .inl ⟨out y,q,h3,h4⟩⟩
  ·rw [if_neg hk] at q
   rw [Bool.eq_false_iff.mpr hk] at h3
   exact ⟨ρ1,h1,h2, .inr ⟨q,h3⟩⟩) (by
  rw [hS,ef xs fun _ h=>h]
  exact zeO fun a ha=>by
   obtain ⟨x,hx,rfl⟩:=List.mem_map.mp ha
   exact hc x (List.mem_filter.mp hx).1)
 rw [hS,ef xs fun _ h=>h] at q
 exact q
def dgt (c:Nat):Bool:=decide (48 ≤ c∧c ≤ 57)
def figs (l:List Nat):List Nat:=if l.head? = some 45 then l.tail else l
def numB (l:List Nat):Bool:=decide (1 ≤ (figs l).length∧(figs l).length ≤ 60) && (figs l).all dgt && (l == [48] || !((figs l).head? == some 48))
theorem zks {l:List Nat} (h:okL l):okL (figs l):=fun c hc=>by
 unfold figs at hc
 split at hc
 ·exact h c (List.mem_of_mem_tail hc)
 ·exact h c hc
theorem zi4 (l:List Nat):(figs l).length ≤ l.length:=by
 unfold figs
 split
 ·simp
 ·exact Nat.le_refl _
theorem zmB (c:Nat):zjI ⟨#[c]⟩ (Str.ofString "0123456789")=dgt c:=by
 unfold zjI dgt
 rw [StrLaws.found_one]
 have e:(Str.ofString "0123456789").cps.toList=[48,49,50,51,52,53,54,55,56,57]:=by decide
 rw [e]
 simp only [List.mem_cons,List.not_mem_nil,or_false]
 congr 1
 apply propext
 omega
theorem zi6 {l:List Nat} (h:okL l):ascii (L2S l)=true:=by
 unfold ascii
 simp only [L2S,List.all_toArray,List.all_eq_true,decide_eq_true_eq]
 intro c hc
 have:=h c hc
 omega
theorem zjf {a b:Nat} (h:A.str ⟨#[a]⟩ = A.str ⟨#[b]⟩):a=b:=by
 simp at h;exact h
theorem zlA (Ω:Sto) (x0:Option A) (l:List Nat) (hl:l.length ≤ 100000) (hd:okL l):zdJ [x0,some (.str (L2S l))] Ω=some (.ok (.lst ((l.map dgt).map A.bl)),Ω):=by
 have as:=zi6 hd
 rw [List.map_map]
 exact zgE (n:=1) (js:=[]) (fi:=zhU (vVar 1)) (g:=gN 0) (ρ:=[x0,some (.str (L2S l))]) (Ω:=Ω) (Ω0:=Ω) (S:=zhL (L2S l)) l (fun c => .str ⟨#[c]⟩) (A.bl ∘ dgt) (fun ρ=>∃ y,ρ=[y]) (fun x y e=>by rw [zjf e])
  (by simp [as]) (fun ys=>trivial) ⟨none,by simp [lcEv]⟩ (by simp [zf9]) (by omega) (fun c hc ρ hP ys=>by
   obtain ⟨y,rfl⟩:=hP
   have fi:=zmB c
   exact ⟨[some (.str ⟨#[c]⟩)],⟨_,rfl⟩,by simp,by simp [fi]⟩) (fun x _=>by simp only [Function.comp,Cl])
theorem zly (Ω:Sto) (x0:Option A) (l:List Nat) (hl:l.length ≤ 100000) (hd:okL l):zck [x0,some (.str (L2S l))] Ω=some (.ok (.lst ((l.filter fun c=>!dgt c).map fun c=>A.str (L2S [c]))),Ω):=by
 have as:=zi6 hd
 exact zf4 (n:=1) (js:=[]) (fi:=zhU (vVar 1)) (g:=gN 0) (ρ:=[x0,some (.str (L2S l))]) (Ω:=Ω) (Ω0:=Ω) (S:=zhL (L2S l)) l (fun c => .str ⟨#[c]⟩) (fun c=>A.str (L2S [c])) (fun c=>!dgt c) (fun ρ=>∃ y,ρ=[y]) (fun x y e=>by rw [zjf e];exact ⟨rfl,rfl⟩)
  (by simp [as]) (fun ys=>trivial) ⟨none,by simp [lcEv]⟩ (by simp [zf9]) (by omega) (fun c hc ρ hP ys=>by
   obtain ⟨y,rfl⟩:=hP
   have fi:=zmB c
   exact ⟨[some (.str ⟨#[c]⟩)],⟨_,rfl⟩,by simp,by simp [fi],by simp [L2S]⟩) (fun x _=>by simp only [Cl])
theorem zi0 {ls:List (List Nat)} (h:∀ x ∈ ls,okL x):pur 8 (.lst (ls.map fun x=>A.str (L2S x)))=true:=by
 rw [zoi,List.all_eq_true]
 intro a ha
 obtain ⟨x,hx,rfl⟩:=List.mem_map.mp ha
 exact zfC (h x hx)
theorem zdM {ls:List (List Nat)} (h:∀ x ∈ ls,okL x) (Ω:Sto):gEq (.lst (ls.map fun x=>A.str (L2S x))) (.lst []) Ω=some (.ok (.bl ls.isEmpty),Ω):=by
 have h1:=zi0 h
 have h2:pur 8 (.lst [])=true:=rfl
 have h3:eqA 8 (.lst (ls.map fun x=>A.str (L2S x))) (.lst [])=ls.isEmpty:=by cases ls <;> rfl
 simp [gEq,gEqB,zet h1,zet h2,h1,h2,h3]
theorem ziC {ls:List (List Nat)} (h:∀ x ∈ ls,okL x) (Ω:Sto):gNe (.lst (ls.map fun x=>A.str (L2S x))) (.lst []) Ω=some (.ok (.bl (!ls.isEmpty)),Ω):=by
 have h1:=zi0 h
 have h2:pur 8 (.lst [])=true:=rfl
 have h3:eqA 8 (.lst (ls.map fun x=>A.str (L2S x))) (.lst [])=ls.isEmpty:=by cases ls <;> rfl
 simp [gNe,gEqB,zet h1,zet h2,h1,h2,h3]
theorem zlT {a b:List Nat} (ha:okL a) (hb:okL b) (Ω:Sto):gNe (.str (L2S a)) (.str (L2S b)) Ω=some (.ok (.bl (!(a == b))),Ω):=by
 have e:(L2S a == L2S b)=(a == b):=by
  by_cases h:a=b
  ·subst h;simp
  ·have:¬ L2S a=L2S b:=fun z=>h (zej z)
   rw [beq_eq_false_iff_ne.mpr h,beq_eq_false_iff_ne.mpr this]
 have h1:=zfC ha
 have h2:=zfC hb
 have r1:res Ω 6 (.str (L2S a))=some (.str (L2S a)):=by simp [res,h1]
 have r2:res Ω 6 (.str (L2S b))=some (.str (L2S b)):=by simp [res,h2]
 unfold gNe gEqB
 rw [r1,r2]
 simp only [h1,h2,Bool.and_self,if_true]
 show some (Rs.ok (A.bl (!(L2S a == L2S b))),Ω)=_
 rw [e]
theorem zjP (d:Nat):Txt.startswith (L2S []) ⟨#[d]⟩ = false:=by
 show (decide (0 + 1 ≤ (L2S []).length) && _)=false
 rw [zan];rfl
theorem zf2 (d:Nat) (l:List Nat):Txt.startswith (L2S l) ⟨#[d]⟩ = (l.head? == some d):=by
 cases l with
 | nil=>rw [zjP];rfl
 | cons c r=>rw [zjM];simp
theorem znO {l:List Nat} (hd:okL l) (hl:l.length ≤ 100000) (Ω:Sto):zc3 [.str (L2S l)] Ω=some (.ok (.bl (numB l)),Ω):=by
 show trim Ω (outR (zcX [some (.str (L2S l)),none] Ω))=_
 have e45:Str.ofString "-" = ⟨#[45]⟩:=rfl
 have e48:Str.ofString "0" = ⟨#[48]⟩:=rfl
 have e48':Str.ofString "0" = L2S [48]:=rfl
 have fl:=zi4 l
 have qq:=zlA Ω (some (.str (L2S l))) (figs l) (by omega) (zks hd)
 have ge:=zew hd (b:=[48]) (fun c hc=>by simp at hc;omega) Ω
 have first:(vIf (zaI (vBS zfK (vVar 0) (zac (cS "-") a0))) (vSlS (vVar 0) (cI 1)) (vVar 0)) [some (.str (L2S l)),none] Ω=some (.ok (.str (L2S (figs l))),Ω):=by
  have hz2:(L2S l).length ≤ sizeLine:=by rw [zan,sizeLine_eq];omega
  have s1:=zf2 45 l
  rw [← e45] at s1
  by_cases h:l.head? = some 45
  ·have ef:figs l=l.tail:=by simp [figs,h]
   have s2:Txt.slice (L2S l) (some 1) none=L2S l.tail:=by
    cases l with
    | nil=>simp at h
    | cons c r=>exact zgX c r
   rw [h] at s1
   rw [ef]
   generalize L2S l=T at s1 s2 hz2
   generalize Str.ofString "-" = D at s1
   simp [s1,s2,hz2]
  ·have ef:figs l=l:=by simp [figs,h]
   have sb:(l.head? == some 45)=false:=by simpa using h
   rw [sb] at s1
   rw [ef]
   generalize L2S l=T at s1
   generalize Str.ofString "-" = D at s1
   simp [s1]
 have e:∃ ρ,zcX [some (.str (L2S l)),none] Ω=some (.ret (.bl (numB l)),ρ,Ω):=by
  refine ⟨[some (.str (L2S l)),some (.str (L2S (figs l)))],?_⟩
  unfold zcX
  rw [zak (ρ1:=[some (.str (L2S l)),some (.str (L2S (figs l)))]) (Ω':=Ω) (by
   unfold sAsg
   rw [zeg first]
   simp)]
  have z1:(L2S (figs l)).length ≤ sizeLine:=by rw [zan,sizeLine_eq];omega
  by_cases hb:1 ≤ (figs l).length∧(figs l).length ≤ 60
  ·rw [zak (ρ1:=[some (.str (L2S l)),some (.str (L2S (figs l)))]) (Ω':=Ω) (by
    have z2:¬ (((L2S (figs l)).length:Nat):Int) < 1:=by rw [zan];omega
    have z3:¬ (60:Int) < (((L2S (figs l)).length:Nat):Int):=by rw [zan];omega
    generalize L2S (figs l)=T at z1 z2 z3
    generalize L2S l=T2
    simp [z1,z2,z3])]
   have al:((figs l).map dgt).all id=(figs l).all dgt:=by rw [List.all_map];rfl
   have bm:=zfs ((figs l).map dgt)
   have li:zao Ω (.lst (((figs l).map dgt).map A.bl))=some (((figs l).map dgt).map A.bl):=rfl
   have nb:numB l=((figs l).all dgt && (l == [48] || !((figs l).head? == some 48))):=by simp [numB,hb]
   rw [nb]
   have s1:=zf2 48 (figs l)
   rw [← e48] at s1
   rw [← e48'] at ge
   generalize ((figs l).map dgt)=bs at qq al bm li
   generalize bs.map A.bl=us at qq li bm
   generalize L2S (figs l)=T at qq s1
   generalize L2S l=T2 at qq ge
   generalize Str.ofString "0" = Z at ge s1
   cases hall:(figs l).all dgt with
   | false =>
    rw [hall] at al
    rw [zbb (a := .bl false) (ρ1:=[some (.str T2),some (.str T)]) (Ω':=Ω) (by simp [qq,li,bm,al])]
    simp
   | true =>
    rw [hall] at al
    rw [zak (ρ1:=[some (.str T2),some (.str T)]) (Ω':=Ω) (by simp [qq,li,bm,al])]
    generalize (l == [48])=bb at ge
    generalize ((figs l).head? == some 48)=cc at s1
    cases bb <;> simp [ge,s1]
  ·have nb:numB l=false:=by simp only [numB,decide_eq_false hb,Bool.false_and]
   rw [nb]
   rw [zbb (a := .bl false) (ρ1:=[some (.str (L2S l)),some (.str (L2S (figs l)))]) (Ω':=Ω) (by
    have hb':(((L2S (figs l)).length:Nat):Int) < 1∨(60:Int) < (((L2S (figs l)).length:Nat):Int):=by rw [zan];omega
    generalize L2S (figs l)=T at z1 hb'
    generalize L2S l=T2
    by_cases q:((T.length:Nat):Int) < 1
    ·simp [z1,q]
    ·have q2:=hb'.resolve_left q
     simp [z1,q,q2])]
 obtain ⟨ρ,e⟩:=e
 rw [e]
 simp only [zbi]
 exact zbc
end M
namespace M
open PySem L2 V2
theorem ziE {l:List Nat} {n:Nat} (h:n ≤ l.length):Txt.slice (L2S l) none (some (n:Int))=L2S (l.take n):=by
 have:=PyProof.Rows.slice_closes_toL (x:=L2S l) (j:=(n:Int)) (by omega) (by rw [zan];omega)
 rw [eq_of_beq this,zcY]
 simp [L2S]
theorem zjQ {l:List Nat} {n:Nat} (h:n ≤ l.length):Txt.slice (L2S l) (some (n:Int)) none=L2S (l.drop n):=by
 rw [PyProof.Rows.slice_from_eq (b:=(l.length:Int)) (by omega) (by rw [zan];omega) (by rw [zan]),zcY]
 show L2S _=_
 congr 1
 rw [show ((l.length:Int) - (n:Int)).toNat=l.length - n by omega,Int.toNat_natCast,List.take_of_length_le (by simp)]
theorem zi8 (l:List Nat):Txt.slice (L2S l) none (some 1)=L2S (l.take 1):=by
 cases l with
 | nil =>
  rcases PyProof.Rows.slice_ns_cases (L2S []) 1 (by decide) with ⟨h,_⟩ | ⟨_,h⟩
  ·simp at h
  ·rw [zan] at h
   have h0:(Txt.slice (L2S []) none (some 1)).length=0:=by simpa using h
   generalize Txt.slice (L2S []) none (some 1)=z at h0
   cases z with
   | mk c =>
    have:c = #[]:=Array.eq_empty_of_size_eq_zero h0
    subst this;rfl
 | cons c r=>exact ziE (l:=c :: r) (n:=1) (by simp)
theorem zlL (l:List Nat) (c:Nat):(l.take 1 == [c])=(l.head? == some c):=by
 cases l with
 | nil=>rfl
 | cons a r=>simp
theorem filter_empty (l:List Nat):(l.filter fun c=>!dgt c).isEmpty=l.all dgt:=by
 induction l with
 | nil=>rfl
 | cons a r ih =>
  by_cases h:dgt a=true
  ·simp [List.filter_cons,h,ih]
  ·simp [List.filter_cons,h]
theorem zlM {l:List Nat} (hd:okL l) (hl:l.length ≤ 100000) (Ω:Sto):zbv [.str (L2S l)] Ω=some (.ok (.bl (numB l)),Ω):=by
 show trim Ω (outR (zbw [some (.str (L2S l)),none] Ω))=_
 have e45:Str.ofString "-" = L2S [45]:=rfl
 have e48:Str.ofString "0" = L2S [48]:=rfl
 have e0:Str.ofString "" = L2S []:=rfl
 have fl:=zi4 l
 have fo:=zks hd
 have qq:=zly Ω (some (.str (L2S l))) (figs l) (by omega) fo
 have hz2:(L2S l).length ≤ sizeLine:=by rw [zan,sizeLine_eq];omega
 have g1:=zew (a:=l.take 1) (b:=[45]) (fun c hc=>hd c (List.mem_of_mem_take hc)) (fun c hc=>by simp at hc;omega) Ω
 rw [zlL,← e45] at g1
 have g2:=zew fo (b:=[]) (fun c hc=>by simp at hc) Ω
 rw [← e0] at g2
 have g3:=zlT hd (b:=[48]) (fun c hc=>by simp at hc;omega) Ω
 rw [← e48] at g3
 have su:=zi8 l
 have z1:(L2S (figs l)).length ≤ sizeLine:=by rw [zan,sizeLine_eq];omega
 have e:∃ ρ,zbw [some (.str (L2S l)),none] Ω=some (.ret (.bl (numB l)),ρ,Ω):=by
  refine ⟨[some (.str (L2S l)),some (.str (L2S (figs l)))],?_⟩
  unfold zbw
  rw [zak (ρ1:=[some (.str (L2S l)),some (.str (L2S l))]) (Ω':=Ω) (by simp)]
  rw [zak (ρ1:=[some (.str (L2S l)),some (.str (L2S (figs l)))]) (Ω':=Ω) (by
   by_cases h:l.head? = some 45
   ·have ef:figs l=l.tail:=by simp [figs,h]
    have s2:Txt.slice (L2S l) (some 1) none=L2S l.tail:=by
     cases l with
     | nil=>simp at h
     | cons c r=>exact zgX c r
    rw [h] at g1
    rw [ef]
    generalize L2S (l.take 1)=U at g1 su
    generalize L2S l=T at s2 hz2 su
    generalize Str.ofString "-" = D at g1
    simp [g1,s2,su,hz2]
   ·have ef:figs l=l:=by simp [figs,h]
    have sb:(l.head? == some 45)=false:=by simpa using h
    rw [sb] at g1
    rw [ef]
    generalize L2S (l.take 1)=U at g1 su
    generalize L2S l=T at hz2 su
    generalize Str.ofString "-" = D at g1
    simp [g1,su,hz2])]
  have hd1:∀ c r,figs l=c :: r→(figs l == [])=false∧atI (L2S (figs l)).cps.toList 0=some c:=fun c r h=>by
   rw [h];exact ⟨rfl,by simp [atI,ixN]⟩
  cases hf:figs l with
  | nil =>
   have nb:numB l=false:=by simp [numB,hf]
   rw [nb]
   rw [hf] at g2
   have:(([] : List Nat) == [])=true:=rfl
   rw [this] at g2
   generalize L2S []=T at g2
   generalize L2S l=T2
   generalize Str.ofString "" = Z at g2
   rw [zbb (a := .bl false) (ρ1:=[some (.str T2),some (.str T)]) (Ω':=Ω) (by simp [g2])]
  | cons c r =>
   obtain ⟨h1,h2⟩:=hd1 c r hf
   rw [h1] at g2
   rw [← hf]
   have g4:=zew (a:=[c]) (b:=[48]) (fun a ha=>fo a (by rw [hf];simp at ha;simp [ha])) (fun c hc=>by simp at hc;omega) Ω
   rw [← e48] at g4
   have lp:1 ≤ (figs l).length:=by rw [hf];simp
   by_cases hb:(figs l).length ≤ 60
   ·have z3:¬ (60:Int) < (((L2S (figs l)).length:Nat):Int):=by rw [zan];omega
    have nb:numB l=((figs l).all dgt && (l == [48] || !([c] == [48]))):=by
     have:((figs l).head? == some 48)=([c] == [48]):=by rw [hf];simp
     simp [numB,lp,hb,this]
    rw [nb]
    have fe:=filter_empty (figs l)
    have gl:=zdM (ls:=((figs l).filter fun c=>!dgt c).map fun c=>[c]) (fun x hx=>by
     obtain ⟨a,ha,rfl⟩:=List.mem_map.mp hx
     exact fun b hb=>fo b (by simp at hb;rw [hb];exact (List.mem_filter.mp ha).1)) Ω
    rw [List.map_map] at gl
    have gl':gEq (.lst (((figs l).filter fun c=>!dgt c).map fun c=>A.str (L2S [c]))) (.lst []) Ω=some (.ok (.bl ((figs l).all dgt)),Ω):=by
     have:(((figs l).filter fun c=>!dgt c).map fun c=>[c]).isEmpty=((figs l).filter fun c=>!dgt c).isEmpty:=by
      generalize (figs l).filter (fun c=>!dgt c)=w
      cases w <;> rfl
     rw [this,fe] at gl
     exact gl
    generalize (((figs l).filter fun c=>!dgt c).map fun c=>A.str (L2S [c]))=us at qq gl'
    rw [← zlc] at g4
    generalize L2S (figs l)=T at qq g2 z1 z3 h2
    generalize L2S l=T2 at qq g3
    generalize Str.ofString "" = Z0 at g2
    generalize Str.ofString "0" = Z at g3 g4
    generalize (l == [48])=bb at g3
    generalize hcc:([c] == [48])=cc at g4
    cases bb <;> cases cc
    ·rw [zak (ρ1:=[some (.str T2),some (.str T)]) (Ω':=Ω) (by simp [g2,z1,z3,g3,g4,h2])]
     simp [qq,gl']
    ·rw [zbb (a := .bl false) (ρ1:=[some (.str T2),some (.str T)]) (Ω':=Ω) (by simp [g2,z1,z3,g3,g4,h2])]
     simp
    ·rw [zak (ρ1:=[some (.str T2),some (.str T)]) (Ω':=Ω) (by simp [g2,z1,z3,g3])]
     simp [qq,gl']
    ·rw [zak (ρ1:=[some (.str T2),some (.str T)]) (Ω':=Ω) (by simp [g2,z1,z3,g3])]
     simp [qq,gl']
   ·have nb:numB l=false:=by
     have:¬ (1 ≤ (figs l).length∧(figs l).length ≤ 60):=by omega
     simp only [numB,decide_eq_false this,Bool.false_and]
    have z3:(60:Int) < (((L2S (figs l)).length:Nat):Int):=by rw [zan];omega
    rw [nb]
    generalize L2S (figs l)=T at g2 z1 z3
    generalize L2S l=T2
    generalize Str.ofString "" = Z0 at g2
    rw [zbb (a := .bl false) (ρ1:=[some (.str T2),some (.str T)]) (Ω':=Ω) (by simp [g2,z1,z3])]
 obtain ⟨ρ,e⟩:=e
 rw [e]
 simp only [zbi]
 exact zbc
theorem znu {l:List Nat} (h:numB l=true):l.length ≤ 61∧∃ n,intText? (L2S l)=some n:=by
 unfold numB at h
 simp only [Bool.and_eq_true,decide_eq_true_eq,List.all_eq_true] at h
 obtain ⟨⟨⟨h1,h2⟩,h3⟩,_⟩:=h
 have da:NumText.AllDigits (figs l):=fun c hc=>by
  have:=h3 c hc
  simpa [dgt] using this
 have hne:figs l ≠ []:=fun z=>by rw [z] at h1;simp at h1
 by_cases hh:l.head? = some 45
 ·have ef:figs l=l.tail:=by simp [figs,hh]
  have el:l=45 :: figs l:=by
   cases l with
   | nil=>simp at hh
   | cons c r=>simp at hh;rw [ef,hh];rfl
  have hl:l.length ≤ 61:=by rw [el,List.length_cons];omega
  exact ⟨hl,_,intText_neg (x:=L2S l) (cs:=figs l) (by rw [zcY];exact el) da hne (by rw [zan];omega)⟩
 ·have ef:figs l=l:=by simp [figs,hh]
  rw [ef] at h2 da hne
  exact ⟨by omega,_,intText_digits (x:=L2S l) (by rw [zcY];exact da) (by rw [zcY];exact hne) (by rw [zan];omega)⟩
end M
namespace M
open PySem L2 V2
def enS (ls:List (List Nat)):List A:=ls.map fun x=>A.str (L2S x)
theorem zaZ (ls:List (List Nat)):(enS ls).length=ls.length:=by simp [enS]
theorem zcM (c:Nat) (l:List Nat):(Txt.split (L2S l) ⟨#[c]⟩).map A.str=enS (cuts c l):=by
 rw [zgc,List.map_map];rfl
def zd0 (many:Nat) (l:List Nat):Bool:=decide ((cuts 32 l).length=many) && (cuts 32 l).all numB
def zbk (many:Nat):List (List Nat)→Nat→Option Nat
 | [],_=>none
 | l :: r,k=>if zd0 many l=true then zbk many r (k + 1) else some k
def Small (l:List Nat):Prop:=okL l∧l.length ≤ 100000
theorem Small.cut {c:Nat} {l x:List Nat} (h:Small l) (hx:x ∈ cuts c l):Small x:=⟨zlk h.1 hx,Nat.le_trans (zlt hx) h.2⟩
theorem zcx {c:Nat} {l:List Nat} (h:Small l):(cuts c l).length ≤ 100001:=by
 have:=zgK c l
 have:=h.2
 omega
theorem zjD (ls:List (List Nat)):(ls.filter fun w=>!numB w).isEmpty=ls.all numB:=by
 induction ls with
 | nil=>rfl
 | cons a r ih =>
  by_cases h:numB a=true
  ·simp [List.filter_cons,h,ih]
  ·simp [List.filter_cons,h]
theorem fb_q {ws:List (List Nat)} (h:∀ w ∈ ws,Small w) (hl:ws.length ≤ 100001) (x0 x1 x2 x3:Option A) (Ω:Sto):zbV [x0,x1,x2,x3,some (.lst (enS ws))] Ω=some (.ok (.lst (enS (ws.filter fun w=>!numB w))),Ω) :=
 zf4 (n:=1) (js:=[]) (fi:=vSeq (vVar 4)) (g:=gN 0) (ρ:=[x0,x1,x2,x3,some (.lst (enS ws))]) (Ω:=Ω) (Ω0:=Ω) (S:=srcOf (.lst (enS ws)) (enS ws)) ws (fun w=>A.str (L2S w)) (fun w=>A.str (L2S w)) (fun w=>!numB w) (fun ρ=>∃ y,ρ=[y]) (fun x y e=>by
   simp only [A.str.injEq] at e
   rw [zej e];exact ⟨rfl,rfl⟩)
  (by simp) (fun ys=>by simp [srcOf]) ⟨none,by simp [lcEv]⟩ rfl (by omega) (fun w hw ρ hP ys=>by
   obtain ⟨y,rfl⟩:=hP
   have m:=zlM (h w hw).1 (h w hw).2 (Ω ++ [.lst ys])
   generalize L2S w=T at m
   exact ⟨[some (.str T)],⟨_,rfl⟩,by simp,by simp [zaA,noX,m],by simp⟩) (fun x _=>by simp only [Cl])
theorem znp {l:List Nat} (hs:Small l) (many k:Nat) (x0 x4:Option A) (Ω:Sto) :
  zay [x0,some (.int many),some (.int k),some (.str (L2S l)),x4] Ω=some (if zd0 many l=true then .nx else .ret (.int k),[x0,some (.int many),some (.int k),some (.str (L2S l)),some (.lst (enS (cuts 32 l)))],Ω):=by
 have pe:=zcM 32 l
 have z1:(L2S l).length + 2 ≤ sizeLine:=by rw [zan,sizeLine_eq];have:=hs.2;omega
 have y1:((Str.ofString " ").length == 0)=false:=by decide
 have e32:Str.ofString " " = ⟨#[32]⟩:=rfl
 have fw:=zcx (c:=32) hs
 have sw:∀ w ∈ cuts 32 l,Small w:=fun w hw=>hs.cut hw
 have q1:=fb_q sw fw x0 (some (.int many)) (some (.int k)) (some (.str (L2S l))) Ω
 have gn:=ziC (ls:=(cuts 32 l).filter fun w=>!numB w) (fun x hx=>(sw x (List.mem_filter.mp hx).1).1) Ω
 rw [zjD] at gn
 have hlen:=zaZ (cuts 32 l)
 have zl:(enS (cuts 32 l)).length ≤ sizeLine:=by rw [hlen,sizeLine_eq];omega
 unfold zay
 rw [zak (ρ1:=[x0,some (.int many),some (.int k),some (.str (L2S l)),some (.lst (enS (cuts 32 l)))]) (Ω':=Ω) (by
  rw [← e32] at pe
  generalize L2S l=T at pe z1
  generalize Str.ofString " " = Z at pe y1
  generalize enS (cuts 32 l)=us at pe
  simp [pe,z1,y1,mkL])]
 show sIf _ _ _ _ _=_
 have gn':gNe (.lst (enS ((cuts 32 l).filter fun w=>!numB w))) (.lst []) Ω=some (.ok (.bl (!(cuts 32 l).all numB)),Ω):=gn
 generalize enS ((cuts 32 l).filter fun w=>!numB w)=vs at q1 gn'
 have li:zao Ω (.lst (enS (cuts 32 l)))=some (enS (cuts 32 l)):=rfl
 have eo:zd0 many l=(decide ((cuts 32 l).length=many) && (cuts 32 l).all numB):=rfl
 rw [eo]
 rw [← hlen]
 generalize (cuts 32 l).all numB=bb at gn'
 generalize enS (cuts 32 l)=us at q1 li zl
 generalize L2S l=T at q1
 by_cases hm:us.length=many
 ·cases bb <;> simp [li,q1,gn',hm,zl]
 ·have hm':¬ ((us.length:Int)=(many:Int)):=by omega
  cases bb <;> simp [li,q1,gn',hm,hm',zl]
theorem zjS (ok:Sto→Prop) (hok:∀ Ω,ok Ω) (many:Nat) (x0:Option A) (Ω:Sto):∀ (ls:List (List Nat)) (k:Nat) (x2 x3 x4:Option A),(∀ l ∈ ls,Small l) →
  ∃ z2 z3 z4,fFor ok (zf1 2 (zbX (gN 2) (zbX (gN 3) zgH))) zay (zaQ k (enS ls)) [x0,some (.int many),x2,x3,x4] Ω=some ((match zbk many ls k with | some j => .ret (.int j) | none => .nx),[x0,some (.int many),z2,z3,z4],Ω)
 | [],k,x2,x3,x4,_=>⟨x2,x3,x4,by simp [enS,zaQ,fFor,hok,zbk]⟩
 | l :: ls,k,x2,x3,x4,h=>by
  have t:=znp (h l (by simp)) many k x0 x4 Ω
  have g0:zf1 2 (zbX (gN 2) (zbX (gN 3) zgH)) (.tup [.int (k:Int), .str (L2S l)]) [x0,some (.int many),x2,x3,x4] Ω=some (.nx,[x0,some (.int many),some (.int k),some (.str (L2S l)),x4],Ω):=by
   generalize L2S l=T
   simp
  by_cases hb:zd0 many l=true
  ·rw [if_pos hb] at t
   obtain ⟨z2,z3,z4,q⟩:=zjS ok hok many x0 Ω ls (k + 1) (some (.int k)) (some (.str (L2S l))) (some (.lst (enS (cuts 32 l)))) (fun x hx=>h x (by simp [hx]))
   refine ⟨z2,z3,z4,?_⟩
   simp only [zbk,hb,if_true]
   rw [← q]
   exact zdz (hok _) g0 t
  ·rw [if_neg hb] at t
   refine ⟨some (.int k),some (.str (L2S l)),some (.lst (enS (cuts 32 l))),?_⟩
   simp only [zbk,if_neg hb]
   exact zmd (hok _) g0 t
def badA:Option Nat→A
 | some j => .int j
 | none => .non
theorem ziw {l:List Nat} (hs:Small l) (many:Nat) (Ω:Sto):za1 [.str (L2S l), .int many] Ω=some (.ok (badA (zbk many (cuts 10 l) 0)),Ω):=by
 show trim Ω (outR (za2 [some (.str (L2S l)),some (.int many),none,none,none] Ω))=_
 have pe:=zcM 10 l
 have e10:Str.ofString "\n" = ⟨#[10]⟩:=rfl
 have z1:(L2S l).length + 2 ≤ sizeLine:=by rw [zan,sizeLine_eq];have:=hs.2;omega
 have y1:((Str.ofString "\n").length == 0)=false:=by decide
 obtain ⟨z2,z3,z4,q⟩:=zjS (fun Ω'=>zao Ω' (.lst (enS (cuts 10 l)))=some (enS (cuts 10 l))) (fun _=>rfl) many (some (.str (L2S l))) Ω (cuts 10 l) 0 none none none (fun x hx=>hs.cut hx)
 have e:∃ ρ,za2 [some (.str (L2S l)),some (.int many),none,none,none] Ω=some (.ret (badA (zbk many (cuts 10 l) 0)),ρ,Ω):=by
  refine ⟨[some (.str (L2S l)),some (.int many),z2,z3,z4],?_⟩
  unfold za2
  have sf:sFor (zkw (vBS (zda false) (vVar 0) (zac (cS "\n") a0))) (zf1 2 (zbX (gN 2) (zbX (gN 3) zgH))) zay [some (.str (L2S l)),some (.int many),none,none,none] Ω=some ((match zbk many (cuts 10 l) 0 with | some j => .ret (.int j) | none => .nx),[some (.str (L2S l)),some (.int many),z2,z3,z4],Ω):=by
   rw [forO (S:=enumSrc (.lst (enS (cuts 10 l))) (enS (cuts 10 l))) (Ω':=Ω) (by
    rw [← e10] at pe
    generalize L2S l=T at pe z1
    generalize Str.ofString "\n" = Z at pe y1
    generalize enS (cuts 10 l)=us at pe
    simp [pe,z1,y1,mkL])]
   exact q
  cases hb:zbk many (cuts 10 l) 0 with
  | some j=>rw [hb] at sf;rw [zbb sf];rfl
  | none=>rw [hb] at sf;rw [zak sf];simp [badA]
 obtain ⟨ρ,e⟩:=e
 rw [e]
 simp only [zbi]
 exact zbc
end M
namespace M
open PySem L2 V2
theorem ziD {f g:MS} {ρ ρ1:Ev} {Ω Ω':Sto} {e:Exc} (h:f ρ Ω=some (.exc e,ρ1,Ω')):sSeq f g ρ Ω=some (.exc e,ρ1,Ω'):=by unfold sSeq;rw [h]
def intOf (w:List Nat):Int:=(intText? (L2S w)).getD 0
theorem zqf {ws:List (List Nat)} (h:∀ w ∈ ws,Small w) (hl:ws.length ≤ 100001) (x0 x1 x2 x3 x4:Option A) (Ω:Sto):zb3 [x0,x1,x2,x3,x4,some (.lst (enS ws))] Ω=some (.ok (.lst ((ws.map numB).map A.bl)),Ω):=by
 rw [List.map_map]
 exact zgE (n:=1) (js:=[]) (fi:=vSeq (vVar 5)) (g:=gN 0) (ρ:=[x0,x1,x2,x3,x4,some (.lst (enS ws))]) (Ω:=Ω) (Ω0:=Ω) (S:=srcOf (.lst (enS ws)) (enS ws)) ws (fun w=>A.str (L2S w)) (A.bl ∘ numB) (fun ρ=>∃ y,ρ=[y]) (fun x y e=>by
   simp only [A.str.injEq] at e
   rw [zej e])
  (by simp) (fun ys=>by simp [srcOf]) ⟨none,by simp [lcEv]⟩ rfl (by omega) (fun w hw ρ hP ys=>by
   obtain ⟨y,rfl⟩:=hP
   have m:=znO (h w hw).1 (h w hw).2 (Ω ++ [.lst ys])
   generalize L2S w=T at m
   exact ⟨[some (.str T)],⟨_,rfl⟩,by simp,by simp [zaA,noX,m]⟩) (fun x _=>by simp only [Function.comp,Cl])
theorem zqJ {ws:List (List Nat)} (h:∀ w ∈ ws,numB w=true) (hl:ws.length ≤ 100001) (x0 x1 x2 x3 x4:Option A) (Ω:Sto):zcN [x0,x1,x2,x3,x4,some (.lst (enS ws))] Ω=some (.ok (.lst ((ws.map intOf).map A.int)),Ω):=by
 rw [List.map_map]
 exact zgE (n:=1) (js:=[]) (fi:=vSeq (vVar 5)) (g:=gN 0) (ρ:=[x0,x1,x2,x3,x4,some (.lst (enS ws))]) (Ω:=Ω) (Ω0:=Ω) (S:=srcOf (.lst (enS ws)) (enS ws)) ws (fun w=>A.str (L2S w)) (A.int ∘ intOf) (fun ρ=>∃ y,ρ=[y]) (fun x y e=>by
   simp only [A.str.injEq] at e
   rw [zej e])
  (by simp) (fun ys=>by simp [srcOf]) ⟨none,by simp [lcEv]⟩ rfl (by omega) (fun w hw ρ hP ys=>by
   obtain ⟨y,rfl⟩:=hP
   obtain ⟨l1,n,m⟩:=znu (h w hw)
   have eo:intOf w=n:=by simp [intOf,m]
   have l2:(L2S w).length ≤ 640:=by rw [zan];omega
   simp only [Function.comp,eo]
   generalize L2S w=T at m l2
   exact ⟨[some (.str T)],⟨_,rfl⟩,by simp,by simp [m,l2]⟩) (fun x _=>by simp only [Function.comp,Cl])
def rowT (l:List Nat):A := .tup (((cuts 32 l).map intOf).map A.int)
theorem logN {k:Nat} (h:k ≤ 1000000):((k:Int)).natAbs.log2 < 1920:=zmt (by
 have:(10:Nat) ^ 7 ≤ 10 ^ 60:=Nat.pow_le_pow_right (by decide) (by decide)
 have e:(10:Nat) ^ 7=10000000:=by decide
 omega)
theorem ziM {l:List Nat} (hs:Small l) (x0 x1 x2 x3 x5:Option A) (Ω:Sto):sAsg (vBS (zda false) (vVar 4) (zac (cS " ") a0)) (gN 5) [x0,x1,x2,x3,some (.str (L2S l)),x5] Ω=some (.nx,[x0,x1,x2,x3,some (.str (L2S l)),some (.lst (enS (cuts 32 l)))],Ω):=by
 have pe:=zcM 32 l
 have z1:(L2S l).length + 2 ≤ sizeLine:=by rw [zan,sizeLine_eq];have:=hs.2;omega
 have y1:((Str.ofString " ").length == 0)=false:=by decide
 have e32:Str.ofString " " = ⟨#[32]⟩:=rfl
 rw [← e32] at pe
 generalize L2S l=T at pe z1
 generalize Str.ofString " " = Z at pe y1
 generalize enS (cuts 32 l)=us at pe
 simp [pe,z1,y1,mkL]
theorem zlj {l:List Nat} (hs:Small l) (many:Nat) (x0 x2 x3:Option A) (Ω:Sto) :
  (vOrT (zaI (vOp gNe (vCl gLen (zac (vVar 5) a0)) (vVar 1))) (zgV (zaI (vCl zkj (zac zb3 a0))))) [x0,some (.int many),x2,x3,some (.str (L2S l)),some (.lst (enS (cuts 32 l)))] Ω=some (.ok (!zd0 many l),Ω):=by
 have fw:=zcx (c:=32) hs
 have sw:∀ w ∈ cuts 32 l,Small w:=fun w hw=>hs.cut hw
 have q1:=zqf sw fw x0 (some (.int many)) x2 x3 (some (.str (L2S l))) Ω
 have hlen:=zaZ (cuts 32 l)
 have zl:(enS (cuts 32 l)).length ≤ sizeLine:=by rw [hlen,sizeLine_eq];omega
 have li:zao Ω (.lst (enS (cuts 32 l)))=some (enS (cuts 32 l)):=rfl
 have al:((cuts 32 l).map numB).all id=(cuts 32 l).all numB:=by rw [List.all_map];rfl
 have bm:=zfs ((cuts 32 l).map numB)
 have li2:zao Ω (.lst (((cuts 32 l).map numB).map A.bl))=some (((cuts 32 l).map numB).map A.bl):=rfl
 have eo:zd0 many l=(decide ((cuts 32 l).length=many) && (cuts 32 l).all numB):=rfl
 rw [eo,← hlen]
 generalize ((cuts 32 l).map numB)=bs at q1 al bm li2
 generalize bs.map A.bl=vs at q1 bm li2
 generalize (cuts 32 l).all numB=bb at al
 generalize enS (cuts 32 l)=us at q1 li zl
 generalize L2S l=T at q1
 by_cases hm:us.length=many
 ·cases bb <;> simp [li,q1,hm,zl,li2,bm,al]
 ·have hm':¬ ((us.length:Int)=(many:Int)):=by omega
  cases bb <;> simp [li,hm,hm',zl]
theorem zkH {l:List Nat} (hs:Small l) (many k:Nat) (ho:zd0 many l=true) (x0 x5:Option A) (f:Nat) (done:List A) (hd:done.length ≤ 200000) (Ω:Sto) (hf:Ω[f]? = some (.lst done)) :
  zaz [x0,some (.int many),some (.cel f),some (.int k),some (.str (L2S l)),x5] Ω=some (.nx,[x0,some (.int many),some (.cel f),some (.int k),some (.str (L2S l)),some (.lst (enS (cuts 32 l)))],Ω.set f (.lst (done ++ [rowT l]))):=by
 have t:=zlj hs many x0 (some (.cel f)) (some (.int k)) Ω
 rw [ho] at t
 have ha:∀ w ∈ cuts 32 l,numB w=true:=by
  unfold zd0 at ho
  simp only [Bool.and_eq_true,List.all_eq_true] at ho
  exact ho.2
 have q2:=zqJ ha (zcx (c:=32) hs) x0 (some (.int many)) (some (.cel f)) (some (.int k)) (some (.str (L2S l))) Ω
 have cl:zhi Ω (.cel f)=some (f,done):=zg7 hf
 have il:isL Ω (.cel f):=zmO (zgb hf)
 have hz:done.length < sizeLine:=by rw [sizeLine_eq];omega
 have li2:zao Ω (.lst (((cuts 32 l).map intOf).map A.int))=some (((cuts 32 l).map intOf).map A.int):=rfl
 unfold zaz
 rw [zak (ziM hs x0 (some (.int many)) (some (.cel f)) (some (.int k)) x5 Ω)]
 rw [zak (ρ1:=[x0,some (.int many),some (.cel f),some (.int k),some (.str (L2S l)),some (.lst (enS (cuts 32 l)))]) (Ω':=Ω) (by
  unfold sIf
  rw [zeg t]
  simp)]
 unfold rowT
 have zr:(((cuts 32 l).map intOf).map A.int).length ≤ sizeLine:=by rw [List.length_map,List.length_map,sizeLine_eq];have:=zcx (c:=32) hs;omega
 generalize ((cuts 32 l).map intOf).map A.int=us at q2 li2 zr
 generalize enS (cuts 32 l)=vs at q2
 generalize L2S l=T at q2
 simp [q2,cl,il,hz,li2,zr]
theorem zpp {l:List Nat} (hs:Small l) (many k:Nat) (hk:k ≤ 1000000) (ho:zd0 many l=false) (x0 x2 x5:Option A) (Ω:Sto) :
  zaz [x0,some (.int many),x2,some (.int k),some (.str (L2S l)),x5] Ω=some (.exc ⟨"NoText",[("row", .int k)]⟩,[x0,some (.int many),x2,some (.int k),some (.str (L2S l)),some (.lst (enS (cuts 32 l)))],Ω):=by
 have t:=zlj hs many x0 x2 (some (.int k)) Ω
 rw [ho] at t
 have lg:=logN hk
 unfold zaz
 rw [zak (ziM hs x0 (some (.int many)) x2 (some (.int k)) x5 Ω)]
 rw [ziD (e:=⟨"NoText",[("row", .int k)]⟩) (ρ1:=[x0,some (.int many),x2,some (.int k),some (.str (L2S l)),some (.lst (enS (cuts 32 l)))]) (Ω':=Ω) (by
  unfold sIf
  rw [zeg t]
  have lg':(k:Nat).log2 < 1920:=lg
  simp [lg'])]
theorem ziX (ok:Sto→Prop) (hok:∀ Ω,ok Ω) (many:Nat) (x0:Option A) (Ω:Sto):∀ (ls:List (List Nat)) (k:Nat) (done:List A) (x3 x4 x5:Option A),(∀ l ∈ ls,Small l)→done.length + ls.length ≤ 200000→zbk many ls k=none →
  ∃ z3 z4 z5,fFor ok (zf1 2 (zbX (gN 3) (zbX (gN 4) zgH))) zaz (zaQ k (enS ls)) [x0,some (.int many),some (.cel Ω.length),x3,x4,x5] (Ω ++ [.lst done])=some (.nx,[x0,some (.int many),some (.cel Ω.length),z3,z4,z5],Ω ++ [.lst (done ++ ls.map rowT)])
 | [],k,done,x3,x4,x5,_,_,_=>⟨x3,x4,x5,by simp [enS,zaQ,fFor,hok]⟩
 | l :: ls,k,done,x3,x4,x5,h,hl,hb=>by
  have hl':done.length + (ls.length + 1) ≤ 200000:=hl
  by_cases ho:zd0 many l=true
  ·simp only [zbk,ho,if_true] at hb
   have t:=zkH (h l (by simp)) many k ho x0 x5 Ω.length done (by omega) (Ω ++ [.lst done]) (by simp)
   obtain ⟨z3,z4,z5,q⟩:=ziX ok hok many x0 Ω ls (k + 1) (done ++ [rowT l]) (some (.int k)) (some (.str (L2S l))) (some (.lst (enS (cuts 32 l)))) (fun x hx=>h x (by simp [hx])) (by simp;omega) hb
   refine ⟨z3,z4,z5,?_⟩
   have es:(Ω ++ [Cell.lst done]).set Ω.length (.lst (done ++ [rowT l]))=Ω ++ [.lst (done ++ [rowT l])]:=by simp
   rw [es] at t
   have el:done ++ (l :: ls).map rowT=(done ++ [rowT l]) ++ ls.map rowT:=by simp
   rw [el,← q]
   have ee:zaQ k (enS (l :: ls)) = .tup [.int (k:Int), .str (L2S l)] :: zaQ (k + 1) (enS ls):=rfl
   rw [ee]
   refine zdz (hok _) (ρ0:=[x0,some (.int many),some (.cel Ω.length),some (.int k),some (.str (L2S l)),x5]) (Ω0:=Ω ++ [.lst done]) ?_ t
   generalize L2S l=T
   simp
  ·simp only [zbk,if_neg ho] at hb
   cases hb
theorem ziV (ok:Sto→Prop) (hok:∀ Ω,ok Ω) (many:Nat) (x0:Option A) (Ω:Sto) (j:Nat):∀ (ls:List (List Nat)) (k:Nat) (done:List A) (x3 x4 x5:Option A),(∀ l ∈ ls,Small l)→done.length + ls.length ≤ 200000→k + ls.length ≤ 1000000→zbk many ls k=some j →
  ∃ ρ us,fFor ok (zf1 2 (zbX (gN 3) (zbX (gN 4) zgH))) zaz (zaQ k (enS ls)) [x0,some (.int many),some (.cel Ω.length),x3,x4,x5] (Ω ++ [.lst done])=some (.exc ⟨"NoText",[("row", .int j)]⟩,ρ,Ω ++ [.lst us])
 | [],k,done,x3,x4,x5,_,_,_,hb=>by simp [zbk] at hb
 | l :: ls,k,done,x3,x4,x5,h,hl,hk,hb=>by
  have hl':done.length + (ls.length + 1) ≤ 200000:=hl
  have hk':k + (ls.length + 1) ≤ 1000000:=hk
  have ee:zaQ k (enS (l :: ls)) = .tup [.int (k:Int), .str (L2S l)] :: zaQ (k + 1) (enS ls):=rfl
  have g0:zf1 2 (zbX (gN 3) (zbX (gN 4) zgH)) (.tup [.int (k:Int), .str (L2S l)]) [x0,some (.int many),some (.cel Ω.length),x3,x4,x5] (Ω ++ [.lst done])=some (.nx,[x0,some (.int many),some (.cel Ω.length),some (.int k),some (.str (L2S l)),x5],Ω ++ [.lst done]):=by
   generalize L2S l=T
   simp
  by_cases ho:zd0 many l=true
  ·simp only [zbk,ho,if_true] at hb
   have t:=zkH (h l (by simp)) many k ho x0 x5 Ω.length done (by omega) (Ω ++ [.lst done]) (by simp)
   obtain ⟨ρ,us,q⟩:=ziV ok hok many x0 Ω j ls (k + 1) (done ++ [rowT l]) (some (.int k)) (some (.str (L2S l))) (some (.lst (enS (cuts 32 l)))) (fun x hx=>h x (by simp [hx])) (by simp;omega) (by omega) hb
   refine ⟨ρ,us,?_⟩
   have es:(Ω ++ [Cell.lst done]).set Ω.length (.lst (done ++ [rowT l]))=Ω ++ [.lst (done ++ [rowT l])]:=by simp
   rw [es] at t
   rw [ee,← q]
   exact zdz (hok _) g0 t
  ·simp only [zbk,if_neg ho,Option.some.injEq] at hb
   subst hb
   have t:=zpp (h l (by simp)) many k (by omega) (Bool.eq_false_iff.mpr ho) x0 (some (.cel Ω.length)) x5 (Ω ++ [.lst done])
   refine ⟨[x0,some (.int many),some (.cel Ω.length),some (.int k),some (.str (L2S l)),some (.lst (enS (cuts 32 l)))],done,?_⟩
   rw [ee]
   exact zlY (hok _) g0 t
theorem zi3 {l:List Nat} (hs:Small l) (x1 x2 x3 x4 x5:Option A) (Ω:Sto):zkw (vBS (zda false) (vVar 0) (zac (cS "\n") a0)) [some (.str (L2S l)),x1,x2,x3,x4,x5] Ω=some (.ok (enumSrc (.lst (enS (cuts 10 l))) (enS (cuts 10 l))),Ω):=by
 have pe:=zcM 10 l
 have e10:Str.ofString "\n" = ⟨#[10]⟩:=rfl
 have z1:(L2S l).length + 2 ≤ sizeLine:=by rw [zan,sizeLine_eq];have:=hs.2;omega
 have y1:((Str.ofString "\n").length == 0)=false:=by decide
 rw [← e10] at pe
 generalize L2S l=T at pe z1
 generalize Str.ofString "\n" = Z at pe y1
 generalize enS (cuts 10 l)=us at pe
 simp [pe,z1,y1,mkL]
theorem zkZ {l:List Nat} (hs:Small l) (many:Nat) (hb:zbk many (cuts 10 l) 0=none) (Ω:Sto):zaq [.str (L2S l), .int many] Ω=some (.ok (.lst ((cuts 10 l).map rowT)),Ω):=by
 show trim Ω (outR (zaW [some (.str (L2S l)),some (.int many),none,none,none,none] Ω))=_
 have fw:=zcx (c:=10) hs
 obtain ⟨z3,z4,z5,q⟩:=ziX (fun Ω'=>zao Ω' (.lst (enS (cuts 10 l)))=some (enS (cuts 10 l))) (fun _=>rfl) many (some (.str (L2S l))) Ω (cuts 10 l) 0 [] none none none (fun x hx=>hs.cut hx) (by simp;omega) hb
 have e:zaW [some (.str (L2S l)),some (.int many),none,none,none,none] Ω=some (.ret (.lst ((cuts 10 l).map rowT)),[some (.str (L2S l)),some (.int many),some (.cel Ω.length),z3,z4,z5],Ω ++ [.dead]):=by
  unfold zaW
  rw [zak (ρ1:=[some (.str (L2S l)),some (.int many),some (.cel Ω.length),none,none,none]) (Ω':=Ω ++ [.lst []]) (by
   generalize L2S l=T
   simp [mkL])]
  rw [zak (ρ1:=[some (.str (L2S l)),some (.int many),some (.cel Ω.length),z3,z4,z5]) (Ω':=Ω ++ [.lst ((cuts 10 l).map rowT)]) (by
   rw [forO (zi3 hs (some (.int many)) (some (.cel Ω.length)) none none none (Ω ++ [Cell.lst []]))]
   rw [List.nil_append] at q
   exact q)]
  generalize (cuts 10 l).map rowT=us
  generalize L2S l=T
  simp
 rw [e]
 simp only [zbi]
 exact ziW (by
  simp only [Cl]
  exact zeO fun a ha=>by
   obtain ⟨p,_,rfl⟩:=List.mem_map.mp ha
   simp only [rowT,Cl]
   exact zeO fun b hb=>by
    obtain ⟨i,_,rfl⟩:=List.mem_map.mp hb
    simp only [Cl])
theorem zkF {l:List Nat} (hs:Small l) (many:Nat) {j:Nat} (hb:zbk many (cuts 10 l) 0=some j) (Ω:Sto):zaq [.str (L2S l), .int many] Ω=some (.exc ⟨"NoText",[("row", .int j)]⟩,Ω):=by
 show trim Ω (outR (zaW [some (.str (L2S l)),some (.int many),none,none,none,none] Ω))=_
 have fw:=zcx (c:=10) hs
 obtain ⟨ρ,us,q⟩:=ziV (fun Ω'=>zao Ω' (.lst (enS (cuts 10 l)))=some (enS (cuts 10 l))) (fun _=>rfl) many (some (.str (L2S l))) Ω j (cuts 10 l) 0 [] none none none (fun x hx=>hs.cut hx) (by simp;omega) (by omega) hb
 have e:zaW [some (.str (L2S l)),some (.int many),none,none,none,none] Ω=some (.exc ⟨"NoText",[("row", .int j)]⟩,ρ,Ω ++ [.lst us]):=by
  unfold zaW
  rw [zak (ρ1:=[some (.str (L2S l)),some (.int many),some (.cel Ω.length),none,none,none]) (Ω':=Ω ++ [.lst []]) (by
   generalize L2S l=T
   simp [mkL])]
  rw [ziD (e:=⟨"NoText",[("row", .int j)]⟩) (ρ1:=ρ) (Ω':=Ω ++ [.lst us]) (by
   rw [forO (zi3 hs (some (.int many)) (some (.cel Ω.length)) none none none (Ω ++ [Cell.lst []]))]
   exact q)]
 rw [e]
 show trim Ω (some (.exc _,Ω ++ [.lst us]))=_
 simp only [trim]
 rw [if_pos ⟨by simp,by simp [ClL,Cl]⟩]
end M
namespace M
open PySem L2 V2
theorem znl (ds:List A) (n:Nat) (h:n ≤ ds.length):cutA ds none (some (n:Int))=ds.take n:=by
 unfold cutA;rw [HT.zi5,HT.zkg,Nat.min_eq_left h];simp
theorem zg1 (ds:List A) (n:Nat) (h:n ≤ ds.length):cutA ds (some (n:Int)) none=ds.drop n:=by
 unfold cutA;rw [HT.zi5,HT.zkg,Nat.min_eq_left h]
 rw [List.take_of_length_le (by simp)]
theorem zlN {many:Nat} {l:List Nat} {ls:List (List Nat)} {k:Nat} (h:zbk many (l :: ls) k=none):zd0 many l=true:=by
 by_cases ho:zd0 many l=true
 ·exact ho
 ·simp only [zbk,if_neg ho] at h;cases h
theorem zm9 {l:List Nat} (hs:Small l) (hb:zbk 3 (cuts 10 l) 0=none) (Ω:Sto):∃ a b c rs,rs.length + 1=(cuts 10 l).length∧zdl [.str (L2S l)] Ω=some (.ok (.tup [.int a, .int b, .int c, .lst rs]),Ω):=by
 have r:=zkZ hs 3 hb Ω
 have fw:=zcx (c:=10) hs
 have hc:=zh0 10 l
 have ecl:∀ x:List Nat,ClL Ω.length ([.int (intOf x)] : List A):=fun x=>by simp [ClL,Cl]
 cases e:cuts 10 l with
 | nil=>exact absurd e hc
 | cons l0 ls =>
  rw [e] at hb fw
  have ho:=zlN hb
  have h3:(cuts 32 l0).length=3:=by
   unfold zd0 at ho
   simp only [Bool.and_eq_true,decide_eq_true_eq] at ho
   exact ho.1
  obtain ⟨w0,w1,w2,ew⟩ : ∃ w0 w1 w2,cuts 32 l0=[w0,w1,w2]:=by
   match h:cuts 32 l0,h3 with
   | [a,b,c],_=>exact ⟨a,b,c,rfl⟩
  have et:rowT l0 = .tup [.int (intOf w0), .int (intOf w1), .int (intOf w2)]:=by simp [rowT,ew]
  refine ⟨intOf w0,intOf w1,intOf w2,ls.map rowT,by simp,?_⟩
  rw [e,List.map_cons,et] at r
  have cl:ClL Ω.length (ls.map rowT):=zeO fun a ha=>by
   obtain ⟨p,_,rfl⟩:=List.mem_map.mp ha
   simp only [rowT,Cl]
   exact zeO fun b hb=>by
    obtain ⟨i,_,rfl⟩:=List.mem_map.mp hb
    simp only [Cl]
  have zl:(ls.map rowT).length + 1 ≤ sizeLine:=by rw [List.length_map,sizeLine_eq];simp at fw;omega
  generalize ls.map rowT=us at r cl zl
  generalize intOf w0=a at r
  generalize intOf w1=b at r
  generalize intOf w2=c at r
  show trim Ω (outR (zcs [some (.str (L2S l)),none,none] Ω))=_
  have ct:cutA (A.tup [.int a, .int b, .int c] :: us) (some 1) none=us:=zg1 (A.tup [.int a, .int b, .int c] :: us) 1 (by simp)
  have r':zaq [.str (L2S l), .int 3] Ω=some (.ok (.lst (.tup [.int a, .int b, .int c] :: us)),Ω):=r
  have e2:zcs [some (.str (L2S l)),none,none] Ω=some (.ret (.tup [.int a, .int b, .int c, .lst us]),[some (.str (L2S l)),some (.lst (.tup [.int a, .int b, .int c] :: us)),some (.tup [.int a, .int b, .int c])],Ω):=by
   generalize L2S l=T at r'
   unfold zcs
   rw [zak (ρ1:=[some (.str T),some (.lst (.tup [.int a, .int b, .int c] :: us)),none]) (Ω':=Ω) (by simp [zaA,r'])]
   rw [zak (ρ1:=[some (.str T),some (.lst (.tup [.int a, .int b, .int c] :: us)),some (.tup [.int a, .int b, .int c])]) (Ω':=Ω) (by simp [zl])]
   have h4:(4:Nat) ≤ sizeLine:=by decide
   simp [ct,zl,h4,zgw,zlg]
  rw [e2]
  simp only [zbi]
  exact zbc
theorem zlw {l:List Nat} (hs:Small l) {j:Nat} (hb:zbk 3 (cuts 10 l) 0=some j) (Ω:Sto):zdl [.str (L2S l)] Ω=some (.exc ⟨"NoText",[("row", .int j)]⟩,Ω):=by
 have r:=zkF hs 3 hb Ω
 have r':zaq [.str (L2S l), .int 3] Ω=some (.exc ⟨"NoText",[("row", .int j)]⟩,Ω):=r
 show trim Ω (outR (zcs [some (.str (L2S l)),none,none] Ω))=_
 have e2:zcs [some (.str (L2S l)),none,none] Ω=some (.exc ⟨"NoText",[("row", .int j)]⟩,[some (.str (L2S l)),none,none],Ω):=by
  generalize L2S l=T at r'
  unfold zcs
  rw [ziD (e:=⟨"NoText",[("row", .int j)]⟩) (ρ1:=[some (.str T),none,none]) (Ω':=Ω) (by simp [zaA,r'])]
 rw [e2]
 simp only [outR,trim]
 split <;> rfl
theorem zfg {l:List Nat} (hs:Small l) (Ω:Sto):sIf (zaI (vOp gEq (vVar 0) (cS ""))) (sRet (vLst false a0)) sNx [some (.str (L2S l))] Ω=some (if l=[] then .ret (.lst []) else .nx,[some (.str (L2S l))],Ω):=by
 have ge:=zew hs.1 (b:=[]) (fun c hc=>by simp at hc) Ω
 have e0:Str.ofString "" = L2S []:=rfl
 rw [← e0] at ge
 by_cases h:l=[]
 ·rw [if_pos h]
  have:(l == [])=true:=by rw [h];rfl
  rw [this] at ge
  generalize L2S l=T at ge
  generalize Str.ofString "" = Z at ge
  simp [ge,mkL]
 ·rw [if_neg h]
  have:(l == [])=false:=by simpa using h
  rw [this] at ge
  generalize L2S l=T at ge
  generalize Str.ofString "" = Z at ge
  simp [ge]
theorem zl3 (Ω:Sto):zbp [.str (L2S [])] Ω=some (.ok (.lst []),Ω):=by
 have s:=zfg (l:=[]) ⟨fun c hc=>by simp at hc,by simp⟩ Ω
 rw [if_pos rfl] at s
 show trim Ω (outR (za5 [some (.str (L2S []))] Ω))=_
 unfold za5
 rw [zbb s]
 simp only [zbi]
 exact zbc
theorem zm5 {l:List Nat} (hs:Small l) (hne:l ≠ []) (hb:zbk 2 (cuts 10 l) 0=none) (Ω:Sto):zbp [.str (L2S l)] Ω=some (.ok (.lst ((cuts 10 l).map rowT)),Ω):=by
 have s:=zfg hs Ω
 rw [if_neg hne] at s
 have r:zaq [.str (L2S l), .int 2] Ω=_:=zkZ hs 2 hb Ω
 show trim Ω (outR (za5 [some (.str (L2S l))] Ω))=_
 unfold za5
 rw [zak s]
 generalize (cuts 10 l).map rowT=us at r
 generalize L2S l=T at r
 simp [zaA,r]
theorem zlX {l:List Nat} (hs:Small l) (hne:l ≠ []) {j:Nat} (hb:zbk 2 (cuts 10 l) 0=some j) (Ω:Sto):zbp [.str (L2S l)] Ω=some (.exc ⟨"NoText",[("row", .int j)]⟩,Ω):=by
 have s:=zfg hs Ω
 rw [if_neg hne] at s
 have r:zaq [.str (L2S l), .int 2] Ω=_:=zkF hs 2 hb Ω
 show trim Ω (outR (za5 [some (.str (L2S l))] Ω))=_
 unfold za5
 rw [zak s]
 generalize L2S l=T at r
 have e:sRet (vCl (zaA 2 zaq) (zac (vVar 0) (zac (cI 2) a0))) [some (.str T)] Ω=some (.exc ⟨"NoText",[("row", .int j)]⟩,[some (.str T)],Ω):=by simp [zaA,r]
 rw [e]
 simp only [outR,trim]
 split <;> rfl
abbrev cs78:List Str:=["RankError", "NoRow", "NoPlace", "NoPouch", "NoSize", "Wrong", "NoTimes", "Unlike", "NoText"]
theorem znT (p d:Addr) (j:Nat) (Ω:Sto):zbg p ⟨"NoText",[("row", .int j)]⟩ [.exn p d "row" j] Ω=some (.ok (.bl true),Ω):=by
 have t1:anyN (xtab ["NoText"] cs78 "NoText") ["NoPlace", "NoPouch", "NoRow", "NoSize", "NoTimes", "Unlike", "Wrong"]=some false:=by decide
 have t2:xtab ["NoText"] cs78 "NoText" "RankError" = some true:=by decide
 have t3:xtt ["NoText"] "NoText" "ValueError" = some true:=by decide
 have h7:(7:Nat) ≤ sizeLine:=by decide
 show trim Ω (outR (zcn p _ [some (.exn p d "row" j)] Ω))=_
 simp [zcn,h7,isA,zjX,glOf,t1,t2,t3,V2.exP]
end M
namespace M
open PySem L2 V2
theorem zmY {l:List Nat} (hs:Small l) (many:Nat) (hm:many=2∨many=3) (Ω:Sto) :
  ∃ F T,zfr 4 (fun z=>xtab ["NoText"] cs78 z "NoText" == some true) zah zaN [some (.str (L2S l)),some (.int many),some .non,some .non,none,none] Ω=some (.nx,[some (.str (L2S l)),some (.int many),some F,some T,none,none],Ω) ∧
   ((l=[]∧many=2∧F = .lst []∧T = .non)∨(¬ (l=[]∧many=2)∧match zbk many (cuts 10 l) 0 with
    | some j=>T = .lst [.int j, .bl true]
    | none=>T = .non∧((many=3∧∃ a b c rs,rs.length + 1=(cuts 10 l).length∧F = .tup [.int a, .int b, .int c, .lst rs])∨(many=2∧∃ rs,rs.length=(cuts 10 l).length∧F = .lst rs)))):=by
 have good:∀ F,zah [some (.str (L2S l)),some (.int many),some .non,some .non,none,none] Ω=some (.nx,[some (.str (L2S l)),some (.int many),some F,some .non,none,none],Ω) →
   zfr 4 (fun z=>xtab ["NoText"] cs78 z "NoText" == some true) zah zaN [some (.str (L2S l)),some (.int many),some .non,some .non,none,none] Ω=some (.nx,[some (.str (L2S l)),some (.int many),some F,some .non,none,none],Ω):=fun F h=>by
  simp only [zfr,h]
 have bad:∀ j:Nat,zah [some (.str (L2S l)),some (.int many),some .non,some .non,none,none] Ω=some (.exc ⟨"NoText",[("row", .int j)]⟩,[some (.str (L2S l)),some (.int many),some .non,some .non,none,none],Ω) →
   zfr 4 (fun z=>xtab ["NoText"] cs78 z "NoText" == some true) zah zaN [some (.str (L2S l)),some (.int many),some .non,some .non,none,none] Ω=some (.nx,[some (.str (L2S l)),some (.int many),some .non,some (.lst [.int j, .bl true]),none,none],Ω):=fun j h=>by
  refine zmX h (show (xtab ["NoText"] cs78 "NoText" "NoText" == some true)=true by decide) fun p d=>?_
  have al:=znT p d j Ω
  have me:("NoText" : Str) ∈ (["NoText"] : List Str):=by simp
  generalize L2S l=TT
  have h2:(2:Nat) ≤ sizeLine:=by decide
  simp [zaN,exA,zlC,zaA,noX,al,mkL,h2]
 rcases hm with rfl | rfl
 ·by_cases hl:l=[]
  ·subst hl
   have r:=zl3 Ω
   refine ⟨.lst [], .non,good _ ?_, .inl ⟨rfl,rfl,rfl,rfl⟩⟩
   generalize L2S []=T at r
   simp [zah,zaA,r]
  ·cases hb:zbk 2 (cuts 10 l) 0 with
   | some j =>
    have r:=zlX hs hl hb Ω
    refine ⟨.non, .lst [.int j, .bl true],bad j ?_, .inr ⟨fun z=>hl z.1,rfl⟩⟩
    generalize L2S l=T at r
    simp [zah,zaA,r]
   | none =>
    have r:=zm5 hs hl hb Ω
    refine ⟨.lst ((cuts 10 l).map rowT), .non,good _ ?_, .inr ⟨fun z=>hl z.1,rfl, .inr ⟨rfl,_,by simp,rfl⟩⟩⟩
    generalize (cuts 10 l).map rowT=us at r
    generalize L2S l=T at r
    simp [zah,zaA,r]
 ·cases hb:zbk 3 (cuts 10 l) 0 with
  | some j =>
   have r:=zlw hs hb Ω
   refine ⟨.non, .lst [.int j, .bl true],bad j ?_, .inr ⟨fun z=>by omega,rfl⟩⟩
   generalize L2S l=T at r
   simp [zah,zaA,r]
  | none =>
   obtain ⟨a,b,c,rs,hr,r⟩:=zm9 hs hb Ω
   refine ⟨.tup [.int a, .int b, .int c, .lst rs], .non,good _ ?_, .inr ⟨fun z=>by omega,rfl, .inl ⟨rfl,a,b,c,rs,hr,rfl⟩⟩⟩
   generalize L2S l=T at r
   simp [zah,zaA,r]
theorem zhd {l:List Nat} (hs:Small l) (many:Nat) (hm:many=2∨many=3) (Ω:Sto):za6 [.str (L2S l), .int many] Ω=some (.ok (.bl true),Ω):=by
 obtain ⟨F,T,tr,hF⟩:=zmY hs many hm Ω
 have fb:=ziw hs many Ω
 have ge:=zew hs.1 (b:=[]) (fun c hc=>by simp at hc) Ω
 have e0:Str.ofString "" = L2S []:=rfl
 rw [← e0] at ge
 have pe:=zcM 10 l
 have e10:Str.ofString "\n" = ⟨#[10]⟩:=rfl
 have z1:(L2S l).length + 2 ≤ sizeLine:=by rw [zan,sizeLine_eq];have:=hs.2;omega
 have y1:((Str.ofString "\n").length == 0)=false:=by decide
 have fw:=zcx (c:=10) hs
 have hlen:=zaZ (cuts 10 l)
 have zl:(enS (cuts 10 l)).length ≤ sizeLine:=by rw [hlen,sizeLine_eq];omega
 have h2:(2:Nat) ≤ sizeLine:=by decide
 rw [← e10] at pe
 have e:∃ ρ,zaS [some (.str (L2S l)),some (.int many),none,none,none,none] Ω=some (.ret (.bl true),ρ,Ω):=by
  refine ⟨[some (.str (L2S l)),some (.int many),some F,some T,none,some (badA (zbk many (cuts 10 l) 0))],?_⟩
  unfold zaS
  rw [zak (ρ1:=[some (.str (L2S l)),some (.int many),some .non,none,none,none]) (Ω':=Ω) (by simp)]
  rw [zak (ρ1:=[some (.str (L2S l)),some (.int many),some .non,some .non,none,none]) (Ω':=Ω) (by simp)]
  rw [zak tr]
  rw [zak (ρ1:=[some (.str (L2S l)),some (.int many),some F,some T,none,some (badA (zbk many (cuts 10 l) 0))]) (Ω':=Ω) (by
   generalize L2S l=TT at fb
   generalize badA (zbk many (cuts 10 l) 0)=B at fb
   simp [zaA,noX,fb])]
  rcases hF with ⟨hl,hm2,rfl,rfl⟩ | ⟨hn,hF⟩
  ·have gn:gEq (.lst []) (.lst []) Ω=some (.ok (.bl true),Ω):=ziG rfl
   have:(l == [])=true:=by rw [hl];rfl
   rw [this] at ge
   subst hm2
   generalize L2S l=TT at ge
   generalize badA (zbk 2 (cuts 10 l) 0)=B
   generalize Str.ofString "" = Z at ge
   rw [zbb (a := .bl true) (ρ1:=[some (.str TT),some (.int (2:Nat)),some (.lst []),some .non,none,some B]) (Ω':=Ω) (by simp [ge,gn,zfb,mkL])]
  ·rw [zak (ρ1:=[some (.str (L2S l)),some (.int many),some F,some T,none,some (badA (zbk many (cuts 10 l) 0))]) (Ω':=Ω) (by
    generalize L2S l=TT at ge
    generalize badA (zbk many (cuts 10 l) 0)=B
    generalize Str.ofString "" = Z at ge
    by_cases hl:l=[]
    ·have h3:¬ ((many:Int)=2):=fun z=>hn ⟨hl,by omega⟩
     have:(l == [])=true:=by rw [hl];rfl
     rw [this] at ge
     simp [ge,h3]
    ·have:(l == [])=false:=by simpa using hl
     rw [this] at ge
     simp [ge])]
   generalize L2S l=TT at pe z1
   cases hb:zbk many (cuts 10 l) 0 with
   | some j =>
    rw [hb] at hF
    have hF':T = .lst [.int j, .bl true]:=hF
    subst hF'
    have gs:gEq (.lst [.int (j:Int), .bl true]) (.lst [.int (j:Int), .bl true]) Ω=some (.ok (.bl true),Ω):=ziG rfl
    rw [zbb (a := .bl true) (ρ1:=[some (.str TT),some (.int many),some F,some (.lst [.int j, .bl true]),none,some (badA (some j))]) (Ω':=Ω) (by
     simp [badA,zfb,gs,mkL,h2,isA,zgw])]
   | none =>
    rw [hb] at hF
    obtain ⟨hT,hF⟩:=hF
    subst hT
    rw [zak (ρ1:=[some (.str TT),some (.int many),some F,some .non,none,some (badA none)]) (Ω':=Ω) (by simp [badA,zfb])]
    rw [zak (ρ1:=[some (.str TT),some (.int many),some F,some .non,none,some (badA none)]) (Ω':=Ω) (by simp [zfb])]
    have lsp:zao Ω (.lst (enS (cuts 10 l)))=some (enS (cuts 10 l)):=rfl
    rcases hF with ⟨rfl,a,b,c,rs,hr,rfl⟩ | ⟨rfl,rs,hr,rfl⟩
    ·rw [← hlen] at hr
     have zr:rs.length ≤ sizeLine:=by omega
     have lrs:zao Ω (.lst rs)=some rs:=rfl
     have h4:(4:Nat) ≤ sizeLine:=by decide
     generalize Str.ofString "\n" = Z at pe y1
     generalize enS (cuts 10 l)=us at pe zl hr lsp
     have hq:(rs.length:Int)=(us.length:Int) - 1:=by omega
     rw [zbb (a := .bl true) (ρ1:=[some (.str TT),some (.int (3:Nat)),some (.tup [.int a, .int b, .int c, .lst rs]),some .non,none,some (badA none)]) (Ω':=Ω) (by
      simp [pe,z1,y1,zl,zr,h4,isA,zfQ,hq,lrs,lsp])]
    ·rw [← hlen] at hr
     have zr:rs.length ≤ sizeLine:=by omega
     have lrs:zao Ω (.lst rs)=some rs:=rfl
     generalize Str.ofString "\n" = Z at pe y1
     generalize enS (cuts 10 l)=us at pe zl hr lsp
     rw [zak (ρ1:=[some (.str TT),some (.int (2:Nat)),some (.lst rs),some .non,none,some (badA none)]) (Ω':=Ω) (by simp)]
     simp [pe,z1,y1,zl,zr,isA,hr,lrs,lsp]
 obtain ⟨ρ,e⟩:=e
 show noX (fnF 6 zaS) [.str (L2S l), .int many] Ω=_
 have e3:fnF 6 zaS [.str (L2S l), .int many] Ω=some (.ok (.bl true),Ω):=by
  show trim Ω (outR (zaS [some (.str (L2S l)),some (.int many),none,none,none,none] Ω))=_
  rw [e]
  simp only [zbi]
  exact zbc
 simp only [noX,e3]
end M
namespace M
open PySem L2 V2
section
variable {ρ:Ev} {Ω:Sto}
abbrev Gv (f:Ev→Mo A) (ρ:Ev) (Ω:Sto) (a:A):Prop:=f ρ Ω=some (.ok a,Ω)
abbrev GvL (f:Ev→Mo (List A)) (ρ:Ev) (Ω:Sto) (a:List A):Prop:=f ρ Ω=some (.ok a,Ω)
theorem zdK:GvL a0 ρ Ω []:=rfl
theorem zaR {f:Ev→Mo A} {fs:Ev→Mo (List A)} {x:A} {xs:List A} (h:Gv f ρ Ω x) (hs:GvL fs ρ Ω xs):GvL (zac f fs) ρ Ω (x :: xs):=by
 show (zac f fs) ρ Ω=_
 simp [show f ρ Ω=_ from h,show fs ρ Ω=_ from hs]
theorem zeK {fs:Ev→Mo (List A)} {xs:List A} (h:GvL fs ρ Ω xs) (hl:xs.length ≤ 100000):Gv (vLst false fs) ρ Ω (.lst xs):=by
 have hz:xs.length ≤ sizeLine:=by rw [sizeLine_eq];omega
 show (vLst false fs) ρ Ω=_
 simp [show fs ρ Ω=_ from h,hz]
theorem zdi {f g:Ev→Mo A} {a b:List Nat} (hf:Gv f ρ Ω (.str (L2S a))) (hg:Gv g ρ Ω (.str (L2S b))) (h:a.length + b.length ≤ 100000):Gv (vOp (zcR false) f g) ρ Ω (.str (L2S (a ++ b))):=by
 have hz:(L2S a).length + (L2S b).length ≤ sizeLine:=by rw [zan,zan,sizeLine_eq];omega
 have e:=zfu a b
 show (vOp (zcR false) f g) ρ Ω=_
 rw [← e]
 generalize L2S a=x at hf hz
 generalize L2S b=y at hg hz
 simp [show f ρ Ω=_ from hf,show g ρ Ω=_ from hg,hz]
theorem zik {f g:Ev→Mo A} {a b:List A} (hf:Gv f ρ Ω (.lst a)) (hg:Gv g ρ Ω (.lst b)) (h:a.length + b.length ≤ 100000):Gv (vOp (gAdd false) f g) ρ Ω (.lst (a ++ b)):=by
 have hz:¬ sizeLine < a.length + b.length:=by rw [sizeLine_eq];omega
 show (vOp (gAdd false) f g) ρ Ω=_
 simp [show f ρ Ω=_ from hf,show g ρ Ω=_ from hg,gCat,zao,zjO,hz]
theorem zow {f fi:Ev→Mo A} {a:List Nat} {n:Nat} (hf:Gv f ρ Ω (.str (L2S a))) (hi:Gv fi ρ Ω (.int n)) (h:n ≤ a.length) (hl:a.length ≤ 100000):Gv (vSlU f fi) ρ Ω (.str (L2S (a.take n))):=by
 have hz:(L2S a).length ≤ sizeLine:=by rw [zan,sizeLine_eq];omega
 have e:=ziE h
 show (vSlU f fi) ρ Ω=_
 generalize L2S a=x at hf hz e
 simp [show f ρ Ω=_ from hf,show fi ρ Ω=_ from hi,hz,e]
theorem znL {f:Ev→Mo A} {a:List Nat} (hf:Gv f ρ Ω (.str (L2S a))) (hl:a.length ≤ 100000):Gv (vSlU f (cI 1)) ρ Ω (.str (L2S (a.take 1))):=by
 have hz:(L2S a).length ≤ sizeLine:=by rw [zan,sizeLine_eq];omega
 have e:=zi8 a
 show (vSlU f (cI 1)) ρ Ω=_
 generalize L2S a=x at hf hz e
 simp [show f ρ Ω=_ from hf,hz,e]
theorem zpr {f fi:Ev→Mo A} {a:List Nat} {n:Nat} (hf:Gv f ρ Ω (.str (L2S a))) (hi:Gv fi ρ Ω (.int n)) (h:n ≤ a.length) (hl:a.length ≤ 100000):Gv (vSlS f fi) ρ Ω (.str (L2S (a.drop n))):=by
 have hz:(L2S a).length ≤ sizeLine:=by rw [zan,sizeLine_eq];omega
 have e:=zjQ h
 show (vSlS f fi) ρ Ω=_
 generalize L2S a=x at hf hz e
 simp [show f ρ Ω=_ from hf,show fi ρ Ω=_ from hi,hz,e]
theorem zgI {f fi:Ev→Mo A} {a:List A} {n:Nat} (hf:Gv f ρ Ω (.lst a)) (hi:Gv fi ρ Ω (.int n)) (h:n ≤ a.length):Gv (vSl false f sl0 (zbJ fi)) ρ Ω (.lst (a.take n)):=by
 have e:=znl a n h
 show (vSl false f sl0 (zbJ fi)) ρ Ω=_
 simp [show f ρ Ω=_ from hf,show fi ρ Ω=_ from hi,zao,e]
theorem zgu {f fi:Ev→Mo A} {a:List A} {n:Nat} (hf:Gv f ρ Ω (.lst a)) (hi:Gv fi ρ Ω (.int n)) (h:n ≤ a.length):Gv (vSl false f (zbJ fi) sl0) ρ Ω (.lst (a.drop n)):=by
 have e:=zg1 a n h
 show (vSl false f (zbJ fi) sl0) ρ Ω=_
 simp [show f ρ Ω=_ from hf,show fi ρ Ω=_ from hi,zao,e]
theorem ziJ:∀ ls:List (List Nat),sumL (ls.map L2S)=sumN ls
 | []=>rfl
 | x :: r=>by
  have:=ziJ r
  simp only [sumL,sumN,List.map_cons,List.sum_cons,zan] at this ⊢
  rw [this]
theorem zfD {z:Str} {c:Nat} (ez:z=⟨#[c]⟩) {f:Ev→Mo A} {ls:List (List Nat)} (hf:Gv f ρ Ω (.lst (enS ls))) (h:sumN ls + ls.length ≤ 100000):Gv (vBS zdo (cS z) (zac f a0)) ρ Ω (.str (L2S (J c ls))):=by
 subst ez
 have e:=zpC c ls
 have hz:sumL (ls.map L2S) + (ls.map L2S).length * (⟨#[c]⟩ : Str).length ≤ 16777216:=by
  rw [ziJ,List.length_map,show (⟨#[c]⟩ : Str).length=1 from rfl];omega
 have so:strsOf (enS ls)=some (ls.map L2S):=by
  have:=zgk (ls.map L2S)
  rw [List.map_map] at this
  exact this
 have li:zao Ω (.lst (enS ls))=some (enS ls):=rfl
 show (vBS zdo (cS _) (zac f a0)) ρ Ω=_
 generalize ls.map L2S=ys at e hz so
 generalize (⟨#[c]⟩ : Str)=Z at e hz
 generalize enS ls=us at hf so li
 simp [show f ρ Ω=_ from hf,li,so,hz,e]
end
theorem ze4 (ls:List (List Nat)) (n:Nat):(enS ls).take n=enS (ls.take n):=by simp [enS,List.map_take]
theorem ze0 (ls:List (List Nat)) (n:Nat):(enS ls).drop n=enS (ls.drop n):=by simp [enS,List.map_drop]
theorem zk3 (a b:List (List Nat)):enS a ++ enS b=enS (a ++ b):=by simp [enS]
theorem zo1 {es:List (List Nat)} {i:Int} (h0:0 ≤ i) (h1:i < es.length):∃ x ∈ es,atI (enS es) i=some (.str (L2S x)):=by
 obtain ⟨n,rfl⟩:=Int.eq_ofNat_of_zero_le h0
 have hn:n < es.length:=by omega
 refine ⟨es[n],List.getElem_mem hn,?_⟩
 rw [zdP]
 simp [enS,hn]
theorem zkD (w:List Nat):Txt.replace (L2S w) (Str.ofString "-") (Str.ofString "")=L2S (w.filter fun x=>x != 45):=by
 have:=PyProof.Rows.replace_strikes (L2S w) 45
 rw [← zhk (Txt.replace (L2S w) (Str.ofString "-") (Str.ofString ""))]
 congr 1
theorem zlD:repS (Str.ofString "1") 61=L2S (List.replicate 61 49):=by
 rw [← zhk (repS (Str.ofString "1") 61),zhI]
 rfl
abbrev zcK:List Nat:=(Str.ofString " !\"#$&'()*+,-./:;<=>?@ABCXYZ[]^_abcxyz{|}~\t").cps.toList
theorem zpS:okL zcK∧zcK.length=43:=by
 have h:zcK.all (fun c=>decide (c < 128))=true∧zcK.length=43:=by decide
 refine ⟨fun c hc=>?_,h.2⟩
 have:=List.all_eq_true.mp h.1 c hc
 simpa using this
theorem cdiv {a b:Int} (h0:0 < b) (h1:b < 1000000):CDiv a b:=⟨by omega,by omega⟩
theorem zjr {w:List Nat} (ho:okL w) (hl:w.length ≤ 2000) (c:Int) (hc:0 ≤ c) (Ω:Sto):∃ w',okL w'∧w'.length ≤ w.length + 63∧zbT [.str (L2S w), .int c] Ω=some (.ok (.str (L2S w')),Ω):=by
 obtain ⟨at_,hat⟩ : ∃ n:Nat,(c / 8) % ((w.length:Int) + 1)=n:=Int.eq_ofNat_of_zero_le (Int.emod_nonneg _ (by omega))
 have hat1:at_ ≤ w.length:=by
  have:=Int.emod_lt_of_pos (c / 8) (show 0 < (w.length:Int) + 1 by omega)
  omega
 obtain ⟨sg,hsg⟩ : ∃ n:Nat,(c / 512) % 43=n:=Int.eq_ofNat_of_zero_le (Int.emod_nonneg _ (by decide))
 have hsg1:sg < 43:=by omega
 obtain ⟨so,sl⟩:=zpS
 let fg:=w.filter fun x=>x != 45
 have fgl:fg.length ≤ w.length:=List.length_filter_le _ _
 have fgo:okL fg:=fun a ha=>ho a (List.mem_filter.mp ha).1
 have hsx:zcK[sg]? = some zcK[sg]:=List.getElem?_eq_getElem (by rw [sl];exact hsg1)
 have sx:zcK[sg] < 128:=so _ (List.getElem_mem _)
 generalize zcK[sg]=sc at hsx sx
 let es:List (List Nat):=[48 :: w,[45,48],43 :: w,List.replicate 61 49,w.take at_ ++ [sc] ++ w.drop at_,[],[45],fg.take 1 ++ [45] ++ fg]
 have okA:∀ {a b:List Nat},okL a→okL b→okL (a ++ b):=fun ha hb x hx=>(List.mem_append.mp hx).elim (ha x) (hb x)
 have ok1:∀ {d:Nat},d < 128→okL [d]:=fun hd x hx=>by simp at hx;omega
 have okT:∀ {a:List Nat} (n:Nat),okL a→okL (a.take n):=fun n ha x hx=>ha x (List.mem_of_mem_take hx)
 have okD:∀ {a:List Nat} (n:Nat),okL a→okL (a.drop n):=fun n ha x hx=>ha x (List.mem_of_mem_drop hx)
 have hes:∀ x ∈ es,okL x∧x.length ≤ w.length + 63:=by
  intro x hx
  simp only [es,List.mem_cons,List.not_mem_nil,or_false] at hx
  rcases hx with rfl | rfl | rfl | rfl | rfl | rfl | rfl | rfl
  ·exact ⟨okA (a:=[48]) (ok1 (by decide)) ho,by simp⟩
  ·exact ⟨okA (a:=[45]) (ok1 (by decide)) (ok1 (by decide)),by simp⟩
  ·exact ⟨okA (a:=[43]) (ok1 (by decide)) ho,by simp⟩
  ·exact ⟨fun y hy=>by rw [List.eq_of_mem_replicate hy];decide,by simp⟩
  ·exact ⟨okA (okA (okT _ ho) (ok1 sx)) (okD _ ho),by simp;omega⟩
  ·exact ⟨fun y hy=>by simp at hy,by simp⟩
  ·exact ⟨ok1 (by decide),by simp⟩
  ·exact ⟨okA (okA (okT _ fgo) (ok1 (by decide))) fgo,by simp;omega⟩
 obtain ⟨w',hw',hat'⟩:=zo1 (es:=es) (i:=c % 8) (Int.emod_nonneg _ (by decide)) (by
  have:=Int.emod_lt_of_pos c (show (0:Int) < 8 by decide)
  show c % 8 < 8
  exact this)
 refine ⟨w',(hes w' hw').1,(hes w' hw').2,?_⟩
 show trim Ω (outR (zbS [some (.str (L2S w)),some (.int c),none,none,none,none] Ω))=_
 have e:∃ ρ,zbS [some (.str (L2S w)),some (.int c),none,none,none,none] Ω=some (.ret (.str (L2S w')),ρ,Ω):=by
  refine ⟨[some (.str (L2S w)),some (.int c),some (.str (L2S zcK)),some (.int at_),some (.str (L2S fg)),some (.lst (enS (es.take 6)))],?_⟩
  unfold zbS
  have eS:Str.ofString " !\"#$&'()*+,-./:;<=>?@ABCXYZ[]^_abcxyz{|}~\t" = L2S zcK:=(zhk _).symm
  rw [zak (ρ1:=[some (.str (L2S w)),some (.int c),some (.str (L2S zcK)),none,none,none]) (Ω':=Ω) (by
   rw [← eS]
   simp)]
  have zw:(L2S w).length ≤ sizeLine:=by rw [zan,sizeLine_eq];omega
  have lw:(L2S w).length=w.length:=zan w
  have d8:CDiv c 8:=cdiv (by decide) (by decide)
  have dw:CDiv (c / 8) ((w.length:Int) + 1):=cdiv (by omega) (by omega)
  rw [zak (ρ1:=[some (.str (L2S w)),some (.int c),some (.str (L2S zcK)),some (.int at_),none,none]) (Ω':=Ω) (by
   rw [← lw] at hat dw
   generalize L2S zcK=S
   generalize L2S w=W at zw hat dw
   simp [zw,d8,dw,hat])]
  have rd:=zkD w
  have zr:(L2S w).length + ((L2S w).length + 1) * (Str.ofString "").length ≤ 16777216:=by
   rw [show (Str.ofString "").length=0 from rfl,zan];omega
  rw [zak (ρ1:=[some (.str (L2S w)),some (.int c),some (.str (L2S zcK)),some (.int at_),some (.str (L2S fg)),none]) (Ω':=Ω) (by
   have rd':Txt.replace (L2S w) (Str.ofString "-") (Str.ofString "")=L2S fg:=rd
   generalize L2S fg=Fg at rd'
   generalize L2S zcK=S
   generalize L2S w=W at rd' zr
   generalize Str.ofString "" = Z at rd' zr
   generalize Str.ofString "-" = D at rd'
   simp [rd',zr])]
  generalize hρ:([some (.str (L2S w)),some (.int c),some (.str (L2S zcK)),some (.int at_),some (.str (L2S fg)),none] : Ev)=ρ0
  have v0:Gv (vVar 0) ρ0 Ω (.str (L2S w)):=by subst hρ;simp [Gv]
  have v1:Gv (vVar 1) ρ0 Ω (.int c):=by subst hρ;simp [Gv]
  have v2:Gv (vVar 2) ρ0 Ω (.str (L2S zcK)):=by subst hρ;simp [Gv]
  have v3:Gv (vVar 3) ρ0 Ω (.int at_):=by subst hρ;simp [Gv]
  have pS:Gv (vOp gIxS (vVar 2) (vOp (gMod) (vOp (gDiv) (vVar 1) (cI 512)) (vCl zgJ (zac (vVar 2) a0)))) ρ0 Ω (.str (L2S [sc])):=by
   have zs:(L2S zcK).length ≤ sizeLine:=by rw [zan,sl];decide
   have ls':((L2S zcK).length:Int)=43:=by rw [zan,sl];rfl
   have d5:CDiv c 512:=cdiv (by decide) (by decide)
   have d4:CDiv (c / 512) 43:=cdiv (by decide) (by decide)
   have hx:atI (L2S zcK).cps.toList (sg:Int)=some sc:=by rw [zcY,zdP];exact hsx
   show (vOp gIxS _ _) ρ0 Ω=_
   rw [← zlc]
   clear v2
   subst hρ
   generalize L2S zcK=S at zs ls' hx
   simp [d5,ls',d4,zs,hsg,hx]
  have c45:Gv (cS "-") ρ0 Ω (.str (L2S [45])):=rfl
  have p1:Gv (cS "-0") ρ0 Ω (.str (L2S [45,48])):=rfl
  have p3:Gv (vOp (zjt) (cS "1") (cI 61)) ρ0 Ω (.str (L2S (List.replicate 61 49))):=by
   show (vOp zjt _ _) ρ0 Ω=_
   rw [← zlD]
   simp [show (Str.ofString "1").length=1 from rfl]
  have pl:Gv (vLst false (zac (vOp (zcR false) (cS "0") (vVar 0)) (zac (cS "-0") (zac (vOp (zcR false) (cS "+") (vVar 0)) (zac (vOp (zjt) (cS "1") (cI 61)) (zac (vOp (zcR false) (vOp (zcR false) (vSlU (vVar 0) (vVar 3)) (vOp gIxS (vVar 2) (vOp (gMod) (vOp (gDiv) (vVar 1) (cI 512)) (vCl zgJ (zac (vVar 2) a0))))) (vSlS (vVar 0) (vVar 3))) (zac (cS "") a0))))))) ρ0 Ω (.lst (enS (es.take 6))) :=
   zeK (zaR (zdi (a:=[48]) rfl v0 (by simp;omega)) (zaR p1 (zaR (zdi (a:=[43]) rfl v0 (by simp;omega)) (zaR p3 (zaR (zdi (zdi (zow v0 v3 hat1 (by omega)) pS (by simp;omega)) (zpr v0 v3 hat1 (by omega)) (by simp;omega)) (zaR (x := .str (L2S [])) rfl zdK)))))) (by simp [es,enS])
  rw [zak (ρ1:=ρ0.set 5 (some (.lst (enS (es.take 6))))) (Ω':=Ω) (by
   unfold sAsg
   rw [zeg pl]
   subst hρ
   simp)]
  have w1:Gv (vVar 1) (ρ0.set 5 (some (.lst (enS (es.take 6))))) Ω (.int c):=by subst hρ;simp [Gv]
  have w4:Gv (vVar 4) (ρ0.set 5 (some (.lst (enS (es.take 6))))) Ω (.str (L2S fg)):=by subst hρ;simp [Gv]
  have w5:Gv (vVar 5) (ρ0.set 5 (some (.lst (enS (es.take 6))))) Ω (.lst (enS (es.take 6))):=by subst hρ;simp [Gv]
  have wl:Gv (vOp (gAdd false) (vVar 5) (vLst false (zac (cS "-") (zac (vOp (zcR false) (vOp (zcR false) (vSlU (vVar 4) (cI 1)) (cS "-")) (vVar 4)) a0)))) (ρ0.set 5 (some (.lst (enS (es.take 6))))) Ω (.lst (enS es)) :=
   zik w5 (zeK (zaR (x := .str (L2S [45])) rfl (zaR (zdi (zdi (b:=[45]) (znL w4 (by omega)) rfl (by simp;omega)) w4 (by simp;omega)) zdK)) (by simp)) (by simp [es,enS])
  have d8':CDiv c 8:=cdiv (by decide) (by decide)
  have fin:(vOp gIx (vOp (gAdd false) (vVar 5) (vLst false (zac (cS "-") (zac (vOp (zcR false) (vOp (zcR false) (vSlU (vVar 4) (cI 1)) (cS "-")) (vVar 4)) a0)))) (vOp (gMod) (vVar 1) (cI 8))) (ρ0.set 5 (some (.lst (enS (es.take 6))))) Ω=some (.ok (.str (L2S w')),Ω):=by
   have si:zbG Ω (.lst (enS es))=some (enS es):=rfl
   have wm:Gv (vOp (gMod) (vVar 1) (cI 8)) (ρ0.set 5 (some (.lst (enS (es.take 6))))) Ω (.int (c % 8)):=by
    subst hρ
    simp [Gv]
   generalize enS es=us at wl hat' si
   rw [vOp,zd1 wl,zd1 wm]
   simp [si,hat']
  unfold sRet
  rw [zeg fin]
  subst hρ
  simp
 obtain ⟨ρ,e⟩:=e
 rw [e]
 simp only [zbi]
 exact zbc
end M
namespace M
open PySem L2 V2
theorem zcA (a b:List (List Nat)):sumN (a ++ b)=sumN a + sumN b:=by simp [sumN]
theorem J_le (c:Nat) (xs:List (List Nat)):(J c xs).length ≤ sumN xs + xs.length:=by
 by_cases h:xs=[]
 ·subst h;simp [J]
 ·have:=zi1 c h;omega
theorem zhn {t:Ev→Mo Bool} {f:Ev→Mo A} {ρ:Ev} {Ω:Sto} {a:A} (ht:t ρ Ω=some (.ok true,Ω)) (hf:Gv f ρ Ω a):sIf t (sRet f) sNx ρ Ω=some (.ret a,ρ,Ω):=by
 unfold sIf
 rw [zeg ht]
 simp only [if_true]
 unfold sRet
 rw [zeg hf]
theorem ifNx {t:Ev→Mo Bool} {s:MS} {ρ:Ev} {Ω:Sto} (ht:t ρ Ω=some (.ok false,Ω)):sIf t s sNx ρ Ω=some (.nx,ρ,Ω):=by
 unfold sIf
 rw [zeg ht]
 simp
theorem retE {f:Ev→Mo A} {ρ:Ev} {Ω:Sto} {a:A} (hf:Gv f ρ Ω a):sRet f ρ Ω=some (.ret a,ρ,Ω):=by
 unfold sRet
 rw [zeg hf]
theorem zmG {f:Ev→Mo A} {ρ:Ev} {Ω:Sto} {i k:Int} (hf:Gv f ρ Ω (.int i)):(zaI (vOp gEq f (cI k))) ρ Ω=some (.ok (i == k),Ω):=by
 simp [show f ρ Ω=_ from hf]
theorem ziR {F:List A→Mo A} {f g:Ev→Mo A} {ρ:Ev} {Ω:Sto} {a b x:A} (hf:Gv f ρ Ω a) (hg:Gv g ρ Ω b) (h:F [a,b] Ω=some (.ok x,Ω)):Gv (vCl (zaA 2 F) (zac f (zac g a0))) ρ Ω x:=by
 show (vCl _ _) ρ Ω=_
 unfold vCl
 rw [zd1 (zaR hf (zaR hg zdK))]
 simp [zaA,h]
theorem zo9 {f fi:Ev→Mo A} {ρ:Ev} {Ω:Sto} {ls:List (List Nat)} {n:Nat} {x:List Nat} (hf:Gv f ρ Ω (.lst (enS ls))) (hi:Gv fi ρ Ω (.int n)) (h:ls[n]? = some x):Gv (vOp gIx f fi) ρ Ω (.str (L2S x)):=by
 show (vOp gIx f fi) ρ Ω=_
 have si:zbG Ω (.lst (enS ls))=some (enS ls):=rfl
 have ha:atI (enS ls) (n:Int)=some (.str (L2S x)):=by rw [zdP];simp [enS,h]
 generalize enS ls=us at hf si ha
 rw [vOp,zd1 hf,zd1 hi]
 simp [si,ha]
def zem (ls:List (List Nat)):Prop:=∀ x ∈ ls,okL x
theorem zem.app {a b:List (List Nat)} (ha:zem a) (hb:zem b):zem (a ++ b):=fun x hx=>(List.mem_append.mp hx).elim (ha x) (hb x)
theorem zem.take {a:List (List Nat)} (n:Nat) (ha:zem a):zem (a.take n):=fun x hx=>ha x (List.mem_of_mem_take hx)
theorem zem.drop {a:List (List Nat)} (n:Nat) (ha:zem a):zem (a.drop n):=fun x hx=>ha x (List.mem_of_mem_drop hx)
theorem zem.one {a:List Nat} (ha:okL a):zem [a]:=fun x hx=>by simp at hx;rw [hx];exact ha
theorem zk2 {r:List Nat} (ho:okL r) (hl:r.length ≤ 1500) (c:Int) (hc:0 ≤ c) (Ω:Sto):∃ r',okL r'∧r'.length ≤ r.length + 70∧zb7 [.str (L2S r), .int c] Ω=some (.ok (.str (L2S r')),Ω):=by
 have cs:=zgK 32 r
 have cp:=zi7 32 r
 have co:zem (cuts 32 r):=fun x hx=>zlk ho hx
 have pe:=zcM 32 r
 have e32:Str.ofString " " = ⟨#[32]⟩:=rfl
 rw [← e32] at pe
 have z1:(L2S r).length + 2 ≤ sizeLine:=by rw [zan,sizeLine_eq];omega
 have y1:((Str.ofString " ").length == 0)=false:=by decide
 generalize cuts 32 r=ws at cs cp co pe
 obtain ⟨at_,hat⟩ : ∃ n:Nat,(c / 8) % (ws.length:Int)=n:=Int.eq_ofNat_of_zero_le (Int.emod_nonneg _ (by omega))
 have hat1:at_ < ws.length:=by
  have:=Int.emod_lt_of_pos (c / 8) (show 0 < (ws.length:Int) by omega)
  omega
 have sp1:sumN (ws.take at_) + sumN (ws.drop at_)=sumN ws:=by rw [← zcA,List.take_append_drop]
 have ed:ws.drop at_=ws[at_] :: ws.drop (at_ + 1):=List.drop_eq_getElem_cons hat1
 have sp2:sumN (ws.drop at_)=ws[at_].length + sumN (ws.drop (at_ + 1)):=by
  rw [ed]
  simp only [sumN,List.map_cons,List.sum_cons]
 have lt1:(ws.take at_).length=at_:=by rw [List.length_take];omega
 have ld1:(ws.drop at_).length=ws.length - at_:=by simp
 have ld2:(ws.drop (at_ + 1)).length=ws.length - (at_ + 1):=by simp
 have hw:ws[at_]? = some ws[at_]:=List.getElem?_eq_getElem hat1
 have ow:okL ws[at_]:=co _ (List.getElem_mem hat1)
 generalize ws[at_]=w at hw ow sp2 ed
 suffices e:∃ r',okL r'∧r'.length ≤ r.length + 70∧zb6 [some (.str (L2S r)),some (.int c),none,none,none] Ω=some (.ret (.str (L2S r')),[some (.str (L2S r)),some (.int c),some (.lst (enS ws)),some (.int at_),some (.int (c % 8))],Ω) by
  obtain ⟨r',h1,h2,e⟩:=e
  refine ⟨r',h1,h2,?_⟩
  show trim Ω (outR (zb6 [some (.str (L2S r)),some (.int c),none,none,none] Ω))=_
  rw [e]
  simp only [zbi]
  exact zbc
 unfold zb6
 rw [zak (ρ1:=[some (.str (L2S r)),some (.int c),some (.lst (enS ws)),none,none]) (Ω':=Ω) (by
  generalize L2S r=T at pe z1
  generalize Str.ofString " " = Z at pe y1
  generalize enS ws=us at pe
  simp [pe,z1,y1,mkL])]
 have d8:CDiv c 8:=cdiv (by decide) (by decide)
 rw [zak (ρ1:=[some (.str (L2S r)),some (.int c),some (.lst (enS ws)),some (.int at_),none]) (Ω':=Ω) (by
  have hp:(0:Int) < ((enS ws).length:Int):=by rw [zaZ];omega
  rw [← zaZ ws] at hat
  have si:zbG Ω (.lst (enS ws))=some (enS ws):=rfl
  generalize enS ws=us at hat hp si
  generalize L2S r=T
  have hp':0 < us.length:=by omega
  simp [si,d8,hat,hp'])]
 rw [zak (ρ1:=[some (.str (L2S r)),some (.int c),some (.lst (enS ws)),some (.int at_),some (.int (c % 8))]) (Ω':=Ω) (by
  generalize L2S r=T
  generalize enS ws=us
  simp)]
 generalize hρ:([some (.str (L2S r)),some (.int c),some (.lst (enS ws)),some (.int at_),some (.int (c % 8))] : Ev)=ρ0
 have v0:Gv (vVar 0) ρ0 Ω (.str (L2S r)):=by subst hρ;simp [Gv]
 have v1:Gv (vVar 1) ρ0 Ω (.int c):=by subst hρ;simp [Gv]
 have v2:Gv (vVar 2) ρ0 Ω (.lst (enS ws)):=by subst hρ;simp [Gv]
 have v3:Gv (vVar 3) ρ0 Ω (.int at_):=by subst hρ;simp [Gv]
 have v4:Gv (vVar 4) ρ0 Ω (.int (c % 8)):=by subst hρ;simp [Gv]
 have v31:Gv (vOp (gAdd false) (vVar 3) (cI 1)) ρ0 Ω (.int ((at_ + 1:Nat):Int)):=by subst hρ;simp [Gv]
 have vd:Gv (vOp (gDiv) (vVar 1) (cI 32)) ρ0 Ω (.int (c / 32)):=by
  have d32:CDiv c 32:=cdiv (by decide) (by decide)
  subst hρ;simp [Gv,d32]
 have pT:Gv (vSl false (vVar 2) sl0 (zbJ (vVar 3))) ρ0 Ω (.lst (enS (ws.take at_))):=by rw [← ze4];exact zgI v2 v3 (by rw [zaZ];omega)
 have pD:Gv (vSl false (vVar 2) (zbJ (vVar 3)) sl0) ρ0 Ω (.lst (enS (ws.drop at_))):=by rw [← ze0];exact zgu v2 v3 (by rw [zaZ];omega)
 have pD1:Gv (vSl false (vVar 2) (zbJ (vOp (gAdd false) (vVar 3) (cI 1))) sl0) ρ0 Ω (.lst (enS (ws.drop (at_ + 1)))):=by rw [← ze0];exact zgu v2 v31 (by rw [zaZ];omega)
 have t0:=fun k:Int=>zmG (k:=k) v4
 have hm0:(0:Int) ≤ c % 8:=Int.emod_nonneg _ (by decide)
 have jn:∀ {f:Ev→Mo A} {ls:List (List Nat)},Gv f ρ0 Ω (.lst (enS ls))→sumN ls + ls.length ≤ 100000→Gv (vBS zdo (cS " ") (zac f a0)) ρ0 Ω (.str (L2S (J 32 ls))):=fun hf h=>zfD e32 hf h
 have mid:∀ {f:Ev→Mo A} {x:List Nat},Gv f ρ0 Ω (.str (L2S x))→Gv (vLst false (zac f a0)) ρ0 Ω (.lst (enS [x])):=fun {f x} hf=>zeK (xs:=[.str (L2S x)]) (zaR hf zdK) (by simp)
 have ap:∀ {f g:Ev→Mo A} {a b:List (List Nat)},Gv f ρ0 Ω (.lst (enS a))→Gv g ρ0 Ω (.lst (enS b))→a.length + b.length ≤ 100000→Gv (vOp (gAdd false) f g) ρ0 Ω (.lst (enS (a ++ b))):=fun hf hg h=>by
  rw [← zk3];exact zik hf hg (by rw [zaZ,zaZ];exact h)
 by_cases h0:c % 8=0
 ·refine ⟨[32] ++ r,fun a ha=>(List.mem_append.mp ha).elim (fun z=>by simp at z;omega) (ho a),by simp,?_⟩
  rw [zbb (zhn (by rw [t0,h0];rfl) (zdi (a:=[32]) rfl v0 (by simp;omega)))]
 rw [zak (ifNx (by rw [t0,beq_false_of_ne h0]))]
 by_cases h1:c % 8=1
 ·refine ⟨r ++ [32],fun a ha=>(List.mem_append.mp ha).elim (ho a) (fun z=>by simp at z;omega),by simp,?_⟩
  rw [zbb (zhn (by rw [t0,h1];rfl) (zdi (b:=[32]) v0 rfl (by simp;omega)))]
 rw [zak (ifNx (by rw [t0,beq_false_of_ne h1]))]
 by_cases h2:c % 8=2
 ·have q:=ap (ap pT (mid (f:=cS "") (x:=[]) rfl) (by simp;omega)) pD (by simp;omega)
  have sm:sumN (ws.take at_ ++ [[]] ++ ws.drop at_)=sumN ws:=by rw [zcA,zcA];simp [sumN] at sp1 ⊢;omega
  have ln:(ws.take at_ ++ [[]] ++ ws.drop at_).length=ws.length + 1:=by simp;omega
  have jl:=J_le 32 (ws.take at_ ++ [[]] ++ ws.drop at_)
  refine ⟨J 32 (ws.take at_ ++ [[]] ++ ws.drop at_),zh4 32 (by decide) (((co.take _).app (.one fun a ha=>by simp at ha)).app (co.drop _)),by omega,?_⟩
  rw [zbb (zhn (by rw [t0,h2];rfl) (jn q (by omega)))]
 rw [zak (ifNx (by rw [t0,beq_false_of_ne h2]))]
 by_cases h3:c % 8=3
 ·have q:=ap (ap pT (mid (f:=cS "7") (x:=[55]) rfl) (by simp;omega)) pD (by simp;omega)
  have sm:sumN (ws.take at_ ++ [[55]] ++ ws.drop at_)=sumN ws + 1:=by rw [zcA,zcA];simp [sumN] at sp1 ⊢;omega
  have ln:(ws.take at_ ++ [[55]] ++ ws.drop at_).length=ws.length + 1:=by simp;omega
  have jl:=J_le 32 (ws.take at_ ++ [[55]] ++ ws.drop at_)
  refine ⟨J 32 (ws.take at_ ++ [[55]] ++ ws.drop at_),zh4 32 (by decide) (((co.take _).app (.one fun a ha=>by simp at ha;omega)).app (co.drop _)),by omega,?_⟩
  rw [zbb (zhn (by rw [t0,h3];rfl) (jn q (by omega)))]
 rw [zak (ifNx (by rw [t0,beq_false_of_ne h3]))]
 by_cases h4:c % 8=4
 ·have q:=ap pT pD1 (by simp;omega)
  have sm:sumN (ws.take at_ ++ ws.drop (at_ + 1)) ≤ sumN ws:=by rw [zcA];omega
  have ln:(ws.take at_ ++ ws.drop (at_ + 1)).length ≤ ws.length:=by simp;omega
  have jl:=J_le 32 (ws.take at_ ++ ws.drop (at_ + 1))
  refine ⟨J 32 (ws.take at_ ++ ws.drop (at_ + 1)),zh4 32 (by decide) ((co.take _).app (co.drop _)),by omega,?_⟩
  rw [zbb (zhn (by rw [t0,h4];rfl) (jn q (by omega)))]
 rw [zak (ifNx (by rw [t0,beq_false_of_ne h4]))]
 obtain ⟨w',o1,o2,bw⟩:=zjr ow (by omega) (c / 32) (by omega) Ω
 have q:=ap (ap pT (mid (ziR (zo9 v2 v3 hw) vd bw)) (by simp;omega)) pD1 (by simp;omega)
 have sm:sumN (ws.take at_ ++ [w'] ++ ws.drop (at_ + 1)) ≤ sumN ws + 63:=by
  rw [zcA,zcA]
  have:sumN [w']=w'.length:=by simp [sumN]
  omega
 have ln:(ws.take at_ ++ [w'] ++ ws.drop (at_ + 1)).length=ws.length:=by simp;omega
 have jl:=J_le 32 (ws.take at_ ++ [w'] ++ ws.drop (at_ + 1))
 refine ⟨J 32 (ws.take at_ ++ [w'] ++ ws.drop (at_ + 1)),zh4 32 (by decide) (((co.take _).app (.one o1)).app (co.drop _)),by omega,?_⟩
 exact retE (jn q (by omega))
end M
namespace M
open PySem V2
end M
namespace M
open PySem L2 V2
end M
namespace M
open PySem L2 V2
end M
namespace M
open PySem L2 V2
end M
namespace M
open PySem L2 V2
def numI (c x:Int):Nat→Int
 | 0=>x
 | i + 1=>numI c x i * 10 + mixI c (2 + (i:Int)) % 10
theorem zjs (c s:Int) (hc:0 ≤ c) (hc1:c < 8589934592) (n:Nat) (hn:n ≤ 59) (x:Int) (hx:0 ≤ x) (hx1:x < 10) (Ω:Sto) (x3:Option A) :
  ∃ z3,0 ≤ numI c x n∧numI c x n < 10 ^ 60∧fFor (fun _=>True) (gN 3) zaP ((List.range n).map fun (i:Nat)=>A.int (0 + (i:Int))) [some (.int c),some (.int s),some (.int x),x3] Ω=some (.nx,[some (.int c),some (.int s),some (.int (numI c x n)),z3],Ω):=by
 obtain ⟨ρ1,Ω1,q,z3,rfl,rfl,h0,h1⟩:=ze2 (ok:=fun _=>True) (g:=gN 3) (b:=zaP)
  (fun i ρ Ω'=>∃ z3,ρ=[some (.int c),some (.int s),some (.int (numI c x i)),z3]∧Ω'=Ω∧0 ≤ numI c x i∧numI c x i < 10 ^ (i + 1)) (fun _ _ _ _=>trivial)
  ((List.range n).map fun (i:Nat)=>A.int (0 + (i:Int))) 0 [some (.int c),some (.int s),some (.int x),x3] Ω ⟨x3,rfl,rfl,hx,by simpa [numI] using hx1⟩
  (by
   rintro i a ρ Ω' ha ⟨z3,rfl,rfl,h0,h1⟩
   have hi:i < n:=by simpa using (List.getElem?_eq_some_iff.mp ha).1
   have ex:a = .int (i:Int):=by
    rw [List.getElem?_map,List.getElem?_range hi] at ha
    simpa using ha.symm
   subst ex
   rw [Nat.zero_add] at h0 h1 ⊢
   have en:numI c x (i + 1)=numI c x i * 10 + mixI c (2 + (i:Int)) % 10:=rfl
   rw [en]
   generalize numI c x i=y at h0 h1
   have m:=zit c (2 + (i:Int)) Ω' hc hc1 (by omega) (by omega)
   have m0:=mix0 c (2 + (i:Int))
   generalize mixI c (2 + (i:Int))=d at m m0
   have cm:CMul y 10:=zmu (by decide) (by decide)
   refine ⟨[some (.int c),some (.int s),some (.int y),some (.int i)],Ω',[some (.int c),some (.int s),some (.int (y * 10 + d % 10)),some (.int i)],Ω',by simp, .inl (by simp [zaP,zaA,m,cm]),some (.int i),rfl,rfl,by omega,?_⟩
   have:(10:Int) ^ (i + 1 + 1)=10 ^ (i + 1) * 10:=by rw [Int.pow_succ]
   rw [this]
   omega)
 simp only [List.length_map,List.length_range,Nat.zero_add] at h0 h1 q
 refine ⟨z3,h0,?_,q⟩
 have:∀ k,k ≤ 60→(10:Int) ^ k ≤ 10 ^ 60:=by decide
 have:=this (n + 1) (by omega)
 omega
theorem zjq (c:Int) (hc:0 ≤ c) (hc1:c < 8589934592):∃ n,Few n∧∀ Ω,zaJ [.int c] Ω=some (.ok (.int n),Ω):=by
 have d8:CDiv c 8:=⟨by decide,by decide⟩
 have m:=fun Ω=>zit c 1 Ω hc hc1 (by decide) (by decide)
 have m0:=mix0 c 1
 generalize mixI c 1=d at m m0
 obtain ⟨n,hn⟩:=Int.eq_ofNat_of_zero_le (show 0 ≤ c / 8 % 60 by omega)
 have qq:=fun Ω=>zjs c (1 + c / 8 % 60) hc hc1 n (by omega) (1 + d % 9) (by omega) (by omega) Ω none
 obtain ⟨_,y0,y1,_⟩:=qq []
 generalize numI c (1 + d % 9) n=y at qq y0 y1
 have p60:CPow 10 60:=⟨by decide,by decide,by decide⟩
 have s8:(8:Nat) ≤ sizeLine:=by decide
 have front:∀ Ω,∃ z3,∀ f:MS,(sSeq (sAsg (vOp (gAdd false) (cI 1) (vOp (gMod) (vOp (gDiv) (vVar 0) (cI 8)) (cI 60))) (gN 1))
  (sSeq (sAsg (vOp (gAdd false) (cI 1) (vOp (gMod) (vCl (zaA 2 zaH) (zac (vVar 0) (zac (cI 1) a0))) (cI 9))) (gN 2))
  (sSeq (sFor (zgZ (zac (vOp (gSub) (vVar 1) (cI 1)) a0)) (gN 3) zaP) f))) [some (.int c),none,none,none] Ω=f [some (.int c),some (.int (1 + c / 8 % 60)),some (.int y),z3] Ω:=by
  intro Ω
  obtain ⟨z3,_,_,q⟩:=qq Ω
  refine ⟨z3,fun f=>?_⟩
  rw [zak (ρ1:=[some (.int c),some (.int (1 + c / 8 % 60)),none,none]) (Ω':=Ω) (by simp [d8])]
  rw [zak (ρ1:=[some (.int c),some (.int (1 + c / 8 % 60)),some (.int (1 + d % 9)),none]) (Ω':=Ω) (by simp [zaA,m])]
  rw [zak (ρ1:=[some (.int c),some (.int (1 + c / 8 % 60)),some (.int y),z3]) (Ω':=Ω) (by
   rw [forO (S:=zc8 0 n) (Ω':=Ω) (rngO (j:=(n:Int)) (by simp;omega) (by unfold zbx;omega))]
   exact q)]
 have fin:∀ n:Int,-(10 ^ 60) < n→n < 10 ^ 60→(∀ Ω,∃ ρ,zam [some (.int c),none,none,none] Ω=some (.ret (.int n),ρ,Ω))→∃ n,Few n∧∀ Ω,zaJ [.int c] Ω=some (.ok (.int n),Ω):=fun n a b e=>by
  refine ⟨n,zpZ a b,fun Ω=>?_⟩
  obtain ⟨ρ,e⟩:=e Ω
  show trim Ω (outR (zam [some (.int c),none,none,none] Ω))=_
  rw [e]
  simp only [zbi]
  exact zbc
 have t60:(1:Int) < 10 ^ 60:=by decide
 have t60':(1000:Int) < 10 ^ 60:=by decide
 have hm:c % 8=0∨c % 8=1∨c % 8=2∨c % 8=3∨c % 8=4∨c % 8=5∨c % 8=6∨c % 8=7:=by omega
 rcases hm with e | e | e | e | e | e | e | e
 ·exact fin 0 (by decide) (by decide) (by intro Ω;obtain ⟨z3,fr⟩:=front Ω;refine ⟨[some (.int c),some (.int (1 + c / 8 % 60)),some (.int y),z3],?_⟩;unfold zam;rw [fr];simp [d8,p60,s8,e,zhG,zhP,zg3,zhx])
 ·exact fin 1 (by decide) (by decide) (by intro Ω;obtain ⟨z3,fr⟩:=front Ω;refine ⟨[some (.int c),some (.int (1 + c / 8 % 60)),some (.int y),z3],?_⟩;unfold zam;rw [fr];simp [d8,p60,s8,e,zhG,zhP,zg3,zhx])
 ·exact fin (c / 8 % 100) (by omega) (by omega) (by intro Ω;obtain ⟨z3,fr⟩:=front Ω;refine ⟨[some (.int c),some (.int (1 + c / 8 % 60)),some (.int y),z3],?_⟩;unfold zam;rw [fr];simp [d8,p60,s8,e,zhG,zhP,zg3,zhx])
 ·exact fin (0 - 1 - c / 8 % 100) (by omega) (by omega) (by intro Ω;obtain ⟨z3,fr⟩:=front Ω;refine ⟨[some (.int c),some (.int (1 + c / 8 % 60)),some (.int y),z3],?_⟩;unfold zam;rw [fr];simp [d8,p60,s8,e,zhG,zhP,zg3,zhx])
 ·exact fin y (by omega) y1 (by intro Ω;obtain ⟨z3,fr⟩:=front Ω;refine ⟨[some (.int c),some (.int (1 + c / 8 % 60)),some (.int y),z3],?_⟩;unfold zam;rw [fr];simp [d8,p60,s8,e,zhG,zhP,zg3,zhx])
 ·exact fin (0 - y) (by omega) (by omega) (by intro Ω;obtain ⟨z3,fr⟩:=front Ω;refine ⟨[some (.int c),some (.int (1 + c / 8 % 60)),some (.int y),z3],?_⟩;unfold zam;rw [fr];simp [d8,p60,s8,e,zhG,zhP,zg3,zhx])
 ·exact fin (10 ^ 60 - 1) (by decide) (by decide) (by intro Ω;obtain ⟨z3,fr⟩:=front Ω;refine ⟨[some (.int c),some (.int (1 + c / 8 % 60)),some (.int y),z3],?_⟩;unfold zam;rw [fr];simp [d8,p60,s8,e,zhG,zhP,zg3,zhx])
 ·exact fin (1 - 10 ^ 60) (by decide) (by decide) (by intro Ω;obtain ⟨z3,fr⟩:=front Ω;refine ⟨[some (.int c),some (.int (1 + c / 8 % 60)),some (.int y),z3],?_⟩;unfold zam;rw [fr];simp [d8,p60,s8,e,zhG,zhP,zg3,zhx])
theorem zlW (f:Nat→Int) (h0:∀ i,0 ≤ f i) (h1:∀ i,f i < 2147483587):∃ g:Nat→Int,∀ i,Few (g i)∧∀ Ω,zaJ [.int (f i)] Ω=some (.ok (.int (g i)),Ω):=by
 have:∀ i,∃ n,Few n∧∀ Ω,zaJ [.int (f i)] Ω=some (.ok (.int n),Ω):=fun i=>zjq (f i) (h0 i) (by have:=h1 i;omega)
 exact ⟨fun i=>Classical.choose (this i),fun i=>Classical.choose_spec (this i)⟩
end M
namespace M
open PySem L2 V2
theorem znC (a b:String):Str.ofString (a ++ b)=Str.ofString a ++ Str.ofString b:=by
 rw [Str.ofString_eq_toList,Str.ofString_eq_toList,Str.ofString_eq_toList]
 show L2S _=L2S _ ++ L2S _
 rw [zfu,String.toList_append,List.map_append]
theorem str_int (n:Int):Str.ofString (toString n)=L2S (tL n):=by
 cases n with
 | ofNat m =>
  have:=zmD m
  have e:tL (Int.ofNat m)=dg m:=by
   unfold tL
   rw [if_neg (by simp)]
   rfl
  rw [e];exact this
 | negSucc m =>
  have e1:toString (Int.negSucc m) = "-" ++ toString ((m + 1:Nat):Int):=rfl
  have e2:tL (Int.negSucc m)=45 :: dg (m + 1):=by
   unfold tL
   rw [if_pos (Int.negSucc_lt_zero m)]
   rfl
  rw [e1,znC,zmD (m + 1),e2]
  exact zfu [45] _
theorem zoz (x:Int) (h0:0 ≤ x) (h1:x < 8589934592) (many:Nat) (hm:many ≤ 3):∃ ls:List (List Nat),ls.length=many∧(∀ t ∈ ls,okL t∧t.length ≤ 61)∧∀ (Ω:Sto) (x0 x2 x3:Option A),zcF [x0,some (.int many),x2,x3,some (.int x)] Ω=some (.ok (.lst (enS ls)),Ω):=by
 obtain ⟨g,hg⟩:=zlW (fun i=>mixI x (i:Int)) (fun i=>mix0 _ _) (fun i=>mix1 _ _)
 refine ⟨(List.range many).map fun i=>tL (g i),by simp,fun t ht=>?_,fun Ω x0 x2 x3=>?_⟩
 ·obtain ⟨i,_,rfl⟩:=List.mem_map.mp ht
  exact ⟨zqF _,zoY (hg i).1⟩
 ·have ee:enS ((List.range many).map fun i=>tL (g i))=(List.range many).map fun i=>A.str (L2S (tL (g i))):=by simp [enS]
  rw [ee]
  refine zgE (n:=1) (js:=[4]) (fi:=zgZ (zac (vVar 1) a0)) (ρ:=[x0,some (.int many),x2,x3,some (.int x)]) (Ω:=Ω) (Ω0:=Ω) (S:=zc8 0 many) (List.range many) (fun (i:Nat)=>A.int (0 + (i:Int))) (fun i=>A.str (L2S (tL (g i)))) (fun ρ=>∃ y,ρ=[y,some (.int x)]) (fun i j e=>?_) (rngO (j:=(many:Int)) (by simp) (by unfold zbx;omega)) (fun ys=>trivial) ⟨none,by simp [lcEv]⟩ rfl (by simp;omega) (fun i hi ρ hP ys=>?_) (fun i _=>by simp only [Cl])
  ·simp only [A.int.injEq] at e
   have:i=j:=by omega
   subst this;rfl
  ·obtain ⟨y,rfl⟩:=hP
   have hi3:i < many:=by simpa using hi
   have m:=zit x (i:Int) (Ω ++ [.lst ys]) h0 h1 (by omega) (by omega)
   have q:=(hg i).2 (Ω ++ [.lst ys])
   have lg:=zmt (hg i).1
   have st:=str_int (g i)
   have ez:(0:Int) + (i:Int)=(i:Int):=by omega
   rw [ez]
   refine ⟨[some (.int (i:Int)),some (.int x)],⟨_,rfl⟩,by simp,?_⟩
   generalize mixI x (i:Int)=d at m q
   generalize L2S (tL (g i))=T at st
   generalize g i=w at q lg st
   have st':Str.ofString (Int.repr w)=T:=st
   simp [zaA,noX,m,q,lg,st']
theorem zj7:∀ ls:List (List Nat),(∀ t ∈ ls,okL t∧t.length ≤ 61)→sumN ls ≤ 61 * ls.length
 | [],_=>by simp [sumN]
 | t :: r,h=>by
  have a:=zj7 r fun z hz=>h z (by simp [hz])
  have b:=(h t (by simp)).2
  simp only [sumN,List.map_cons,List.sum_cons,List.length_cons] at a ⊢
  omega
def RsOk (n b:Nat) (ls:List (List Nat)):Prop:=ls.length ≤ n∧∀ x ∈ ls,okL x∧x.length ≤ b
theorem appE {fo:Ev→Mo A} {fs:Ev→Mo (List A)} {ρ:Ev} {Ω Ω':Sto} {o:A} {as:List A} (ho:Gv fo ρ Ω o) (il:isL Ω o) (hs:GvL fs ρ Ω as) (h:zdq o as Ω=some (.ok .non,Ω')):sExp (vBM zdq fo fs) ρ Ω=some (.nx,ρ,Ω'):=by
 have e:(vBM zdq fo fs) ρ Ω=some (.ok .non,Ω'):=by
  unfold vBM
  rw [zd1 ho]
  simp only [il,if_true]
  rw [zd1 hs,h]
 unfold sExp
 rw [zeg e]
theorem zla (ns:List Int) (k:Nat) (hk:k ≤ 63) (many:Nat) (hm:many ≤ 3) (f:Nat) (done:List A) (hd:done.length ≤ 100) (x4:Option A) (Ω:Sto) (hf:Ω[f]? = some (.lst done)) :
  ∃ r z4,(okL r∧r.length ≤ 200)∧za8 [some (.scr ns),some (.int many),some (.cel f),some (.int k),x4] Ω=some (.nx,[some (.scr ns),some (.int many),some (.cel f),some (.int k),z4],Ω.set f (.lst (done ++ [.str (L2S r)]))):=by
 have c:=zko ns k Ω (by omega) (by omega)
 have c0:=zm7 ns k
 have c1:=znU ns k
 generalize zhE ns k=x at c c0 c1
 have m:=zit x k Ω c0 (by omega) (by omega) (by omega)
 have m0:=mix0 x k
 have m1:=mix1 x k
 generalize mixI x k=y at m m0 m1
 obtain ⟨ls,hl,ho,q⟩:=zoz y m0 (by omega) many hm
 have q:=q Ω (some (.scr ns)) (some (.cel f)) (some (.int k))
 have sl:=zj7 ls ho
 have jl:=J_le 32 ls
 have jk:=zh4 32 (by decide) (xs:=ls) fun t ht=>(ho t ht).1
 have e32:Str.ofString " " = ⟨#[32]⟩:=rfl
 have jn:Gv (vBS zdo (cS " ") (zac zcF a0)) [some (.scr ns),some (.int many),some (.cel f),some (.int k),some (.int y)] Ω (.str (L2S (J 32 ls))):=zfD e32 q (by omega)
 have cl:zhi Ω (.cel f)=some (f,done):=zg7 hf
 have il:isL Ω (.cel f):=zmO (zgb hf)
 have hz:done.length < sizeLine:=by rw [sizeLine_eq];omega
 refine ⟨J 32 ls,some (.int y),⟨jk,by omega⟩,?_⟩
 unfold za8
 rw [zak (ρ1:=[some (.scr ns),some (.int many),some (.cel f),some (.int k),some (.int y)]) (Ω':=Ω) (by simp [zaA,c,m])]
 have v2:Gv (vVar 2) [some (.scr ns),some (.int many),some (.cel f),some (.int k),some (.int y)] Ω (.cel f):=rfl
 have ap:zdq (.cel f) [.str (L2S (J 32 ls))] Ω=some (.ok .non,Ω.set f (.lst (done ++ [.str (L2S (J 32 ls))]))):=by
  generalize L2S (J 32 ls)=T
  simp [cl,il,hz]
 have ar:=zaR jn (zdK (ρ:=[some (.scr ns),some (.int many),some (.cel f),some (.int k),some (.int y)]) (Ω:=Ω))
 exact appE v2 il ar ap
def I78 (ns:List Int) (many:Nat) (Ω:Sto) (i:Nat) (ρ:Ev) (Ω':Sto):Prop:=∃ (ls:List (List Nat)) (x3 x4:Option A),ρ=[some (.scr ns),some (.int many),some (.cel Ω.length),x3,x4]∧Ω'=Ω ++ [.lst (enS ls)]∧(∀ x ∈ ls,okL x∧x.length ≤ 200)∧ls.length=i
theorem zjR (ns:List Int) (many:Nat) (hm:many ≤ 3) (Ω:Sto) (k:Nat) (hk:k ≤ 63) (i:Nat) (hi:i ≤ 60) (a:A) (ex:a = .int (k:Int)) (ρ:Ev) (Ω':Sto) (h:I78 ns many Ω i ρ Ω') :
  ∃ ρ0 Ω0 ρ1 Ω1,gN 3 a ρ Ω'=some (.nx,ρ0,Ω0)∧(za8 ρ0 Ω0=some (.nx,ρ1,Ω1)∨za8 ρ0 Ω0=some (.ct,ρ1,Ω1))∧I78 ns many Ω (i + 1) ρ1 Ω1:=by
 obtain ⟨ls,x3,x4,rfl,rfl,hR,hl⟩:=h
 subst ex
 obtain ⟨r,z4,hr,t⟩:=zla ns k hk many hm Ω.length (enS ls) (by rw [zaZ];omega) x4 (Ω ++ [.lst (enS ls)]) (by simp)
 have es:(Ω ++ [Cell.lst (enS ls)]).set Ω.length (.lst (enS ls ++ [.str (L2S r)]))=Ω ++ [.lst (enS (ls ++ [r]))]:=by simp [enS]
 rw [es] at t
 have fr:∀ x ∈ ls ++ [r],okL x∧x.length ≤ 200:=fun q hq=>by
  rcases List.mem_append.mp hq with z | z
  ·exact hR q z
  ·rw [List.mem_singleton] at z;subst z;exact hr
 have h1:gN 3 (.int (k:Int)) [some (.scr ns),some (.int many),some (.cel Ω.length),x3,x4] (Ω ++ [.lst (enS ls)])=some (.nx,[some (.scr ns),some (.int many),some (.cel Ω.length),some (.int (k:Int)),x4],Ω ++ [.lst (enS ls)]):=by
  generalize enS ls=us
  simp
 have hL:(ls ++ [r]).length=i + 1:=by rw [List.length_append,hl];rfl
 have h2:I78 ns many Ω (i + 1) [some (.scr ns),some (.int many),some (.cel Ω.length),some (.int (k:Int)),z4] (Ω ++ [.lst (enS (ls ++ [r]))]):=⟨ls ++ [r],some (.int (k:Int)),z4,rfl,rfl,fr,hL⟩
 exact ⟨_,_,_,_,h1,Or.inl t,h2⟩
theorem zl1 (ns:List Int) (hns:ns.length ≤ 63) (many:Nat) (hmy:many ≤ 3) (Ω:Sto):∃ ls,RsOk 20 200 ls∧zc0 [.scr ns, .int many] Ω=some (.ok (.lst (enS ls)),Ω):=by
 obtain ⟨m,hm⟩:=Int.eq_ofNat_of_zero_le (show 0 ≤ min (ns.length:Int) 23 by omega)
 obtain ⟨ρ1,Ω1,q,ls,x3,x4,rfl,rfl,hR,hl⟩:=ze2 (ok:=fun _=>True) (g:=gN 3) (b:=za8)
  (I78 ns many Ω) (fun _ _ _ _=>trivial)
  ((List.range (m - 3)).map fun (i:Nat)=>A.int (3 + (i:Int))) 0 [some (.scr ns),some (.int many),some (.cel Ω.length),none,none] (Ω ++ [.lst []]) ⟨[],none,none,rfl,rfl,fun _ h=>by simp at h,rfl⟩
  (fun i a ρ Ω' ha h=>by
   have hi:i < m - 3:=by simpa using (List.getElem?_eq_some_iff.mp ha).1
   have ex:a = .int ((3 + i:Nat):Int):=by
    rw [List.getElem?_map,List.getElem?_range hi] at ha
    simpa using ha.symm
   rw [Nat.zero_add] at h ⊢
   exact zjR ns many hmy Ω (3 + i) (by omega) i (by omega) a ex ρ Ω' h)
 simp only [List.length_map,List.length_range,Nat.zero_add] at hl
 refine ⟨ls,⟨by omega,hR⟩,?_⟩
 show trim Ω (outR (zc6 [some (.scr ns),some (.int many),none,none,none] Ω))=_
 have e:zc6 [some (.scr ns),some (.int many),none,none,none] Ω=some (.ret (.lst (enS ls)),[some (.scr ns),some (.int many),some (.cel Ω.length),x3,x4],Ω ++ [.dead]):=by
  unfold zc6
  rw [zak (ρ1:=[some (.scr ns),some (.int many),some (.cel Ω.length),none,none]) (Ω':=Ω ++ [.lst []]) (by simp [mkL])]
  rw [zak (ρ1:=[some (.scr ns),some (.int many),some (.cel Ω.length),x3,x4]) (Ω':=Ω ++ [.lst (enS ls)]) (by
   have en:((m:Int) - 3).toNat=m - 3:=by omega
   rw [forO (S:=zc8 3 (m - 3)) (Ω':=Ω ++ [.lst []]) (by
    rw [← en]
    exact zqb (i:=3) (j:=(m:Int)) (by simp [hm]) (by unfold zbx;omega))]
   exact q)]
  generalize enS ls=us
  simp
 rw [e]
 simp only [zbi]
 exact ziW (by
  simp only [Cl]
  exact zeO fun a ha=>by
   obtain ⟨p,_,rfl⟩:=List.mem_map.mp ha
   simp only [Cl])
theorem zj2 {n b:Nat} {ls:List (List Nat)} (h:RsOk n b ls) (hn:n ≤ 100) (hb:b ≤ 1500) (c:Int) (hc:0 ≤ c) (Ω:Sto):∃ ls',RsOk (n + 1) (b + 70) ls'∧zbo [.lst (enS ls), .int c] Ω=some (.ok (.lst (enS ls')),Ω):=by
 obtain ⟨hl,hx⟩:=h
 have up:∀ x ∈ ls,okL x∧x.length ≤ b + 70:=fun x hx'=>⟨(hx x hx').1,by have:=(hx x hx').2;omega⟩
 have gz:=zdM (ls:=ls) (fun x hx'=>(hx x hx').1) Ω
 have gz':gEq (.lst (enS ls)) (.lst []) Ω=some (.ok (.bl ls.isEmpty),Ω):=gz
 obtain ⟨at_,hat⟩ : ∃ k:Nat,(c / 8) % (max 1 (ls.length:Int))=k:=Int.eq_ofNat_of_zero_le (Int.emod_nonneg _ (by omega))
 have hat1:(at_:Int) < max 1 (ls.length:Int):=by
  rw [← hat];exact Int.emod_lt_of_pos _ (by omega)
 have hat2:at_ ≤ ls.length:=by omega
 suffices e:∃ ls',RsOk (n + 1) (b + 70) ls'∧zbj [some (.lst (enS ls)),some (.int c),none,none] Ω=some (.ret (.lst (enS ls')),[some (.lst (enS ls)),some (.int c),some (.int at_),some (.int (c % 8))],Ω) by
  obtain ⟨ls',h1,e⟩:=e
  refine ⟨ls',h1,?_⟩
  show trim Ω (outR (zbj [some (.lst (enS ls)),some (.int c),none,none] Ω))=_
  rw [e]
  simp only [zbi]
  exact zbc
 unfold zbj
 have d8:CDiv c 8:=cdiv (by decide) (by decide)
 rw [zak (ρ1:=[some (.lst (enS ls)),some (.int c),some (.int at_),none]) (Ω':=Ω) (by
  rw [← zaZ ls] at hat
  have si:zbG Ω (.lst (enS ls))=some (enS ls):=rfl
  generalize enS ls=us at hat si
  have hp:(0:Int) < max 1 (us.length:Int):=by omega
  simp [si,d8,hat,hp])]
 rw [zak (ρ1:=[some (.lst (enS ls)),some (.int c),some (.int at_),some (.int (c % 8))]) (Ω':=Ω) (by
  generalize enS ls=us
  simp)]
 generalize hρ:([some (.lst (enS ls)),some (.int c),some (.int at_),some (.int (c % 8))] : Ev)=ρ0
 have v0:Gv (vVar 0) ρ0 Ω (.lst (enS ls)):=by subst hρ;simp [Gv]
 have v1:Gv (vVar 1) ρ0 Ω (.int c):=by subst hρ;simp [Gv]
 have v2:Gv (vVar 2) ρ0 Ω (.int at_):=by subst hρ;simp [Gv]
 have v3:Gv (vVar 3) ρ0 Ω (.int (c % 8)):=by subst hρ;simp [Gv]
 have v21:Gv (vOp (gAdd false) (vVar 2) (cI 1)) ρ0 Ω (.int ((at_ + 1:Nat):Int)):=by subst hρ;simp [Gv]
 have vd:Gv (vOp (gDiv) (vVar 1) (cI 256)) ρ0 Ω (.int (c / 256)):=by
  have d32:CDiv c 256:=cdiv (by decide) (by decide)
  subst hρ;simp [Gv,d32]
 have pT:Gv (vSl false (vVar 0) sl0 (zbJ (vVar 2))) ρ0 Ω (.lst (enS (ls.take at_))):=by rw [← ze4];exact zgI v0 v2 (by rw [zaZ];omega)
 have pD:Gv (vSl false (vVar 0) (zbJ (vVar 2)) sl0) ρ0 Ω (.lst (enS (ls.drop at_))):=by rw [← ze0];exact zgu v0 v2 (by rw [zaZ];omega)
 have t0:=fun k:Int=>zmG (k:=k) v3
 have mid:∀ {f:Ev→Mo A} {x:List Nat},Gv f ρ0 Ω (.str (L2S x))→Gv (vLst false (zac f a0)) ρ0 Ω (.lst (enS [x])):=fun {f x} hf=>zeK (xs:=[.str (L2S x)]) (zaR hf zdK) (by simp)
 have ap:∀ {f g:Ev→Mo A} {a b:List (List Nat)},Gv f ρ0 Ω (.lst (enS a))→Gv g ρ0 Ω (.lst (enS b))→a.length + b.length ≤ 100000→Gv (vOp (gAdd false) f g) ρ0 Ω (.lst (enS (a ++ b))):=fun hf hg h=>by
  rw [← zk3];exact zik hf hg (by rw [zaZ,zaZ];exact h)
 have nx:okL []∧([] : List Nat).length ≤ b + 70:=⟨fun a ha=>by simp at ha,by simp⟩
 have tz:(zaI (vOp gEq (vVar 0) (vLst false a0))) ρ0 Ω=some (.ok ls.isEmpty,Ω):=by
  have:Gv (vOp gEq (vVar 0) (vLst false a0)) ρ0 Ω (.bl ls.isEmpty):=by
   show (vOp gEq _ _) ρ0 Ω=_
   rw [vOp,zd1 v0,zd1 (zeK zdK (by simp))]
   exact gz'
  unfold zaI
  rw [zd1 this]
  simp
 have tor:(vOrT (zaI (vOp gEq (vVar 3) (cI 0))) (zaI (vOp gEq (vVar 0) (vLst false a0)))) ρ0 Ω=some (.ok (c % 8 == 0 || ls.isEmpty),Ω):=by
  unfold vOrT
  rw [zd1 (t0 0)]
  cases (c % 8 == 0)
  ·simpa using tz
  ·simp
 by_cases h0:c % 8=0∨ls=[]
 ·have ht:(c % 8 == 0 || ls.isEmpty)=true:=by rcases h0 with z | z <;> simp [z]
  refine ⟨ls.take at_ ++ [[]] ++ ls.drop at_,⟨by simp;omega,fun x hx'=>?_⟩,?_⟩
  ·simp only [List.mem_append,List.mem_singleton] at hx'
   rcases hx' with (z | z) | z
   ·exact up x (List.mem_of_mem_take z)
   ·subst z;exact nx
   ·exact up x (List.mem_of_mem_drop z)
  ·rw [zbb (zhn (by rw [tor,ht]) (ap (ap pT (mid (f:=cS "") (x:=[]) rfl) (by simp;omega)) pD (by simp;omega)))]
 have hne:ls ≠ []:=fun z=>h0 (.inr z)
 have hpos:1 ≤ ls.length:=by
  cases ls with
  | nil=>exact absurd rfl hne
  | cons x r=>simp
 have hf:(c % 8 == 0 || ls.isEmpty)=false:=by
  have a:(c % 8 == 0)=false:=beq_false_of_ne fun z=>h0 (.inl z)
  have b:ls.isEmpty=false:=by cases ls with | nil=>exact absurd rfl hne | cons x r=>rfl
  rw [a,b];rfl
 rw [zak (ifNx (by rw [tor,hf]))]
 by_cases h1:c % 8=1
 ·refine ⟨ls ++ [[]],⟨by simp;omega,fun x hx'=>?_⟩,?_⟩
  ·simp only [List.mem_append,List.mem_singleton] at hx'
   rcases hx' with z | z
   ·exact up x z
   ·subst z;exact nx
  ·rw [zbb (zhn (by rw [t0,h1];rfl) (ap v0 (mid (f:=cS "") (x:=[]) rfl) (by simp;omega)))]
 rw [zak (ifNx (by rw [t0,beq_false_of_ne h1]))]
 by_cases h2:c % 8=2
 ·have p1:Gv (vSl false (vVar 0) sl0 (zbJ (cI 1))) ρ0 Ω (.lst (enS (ls.take 1))):=by rw [← ze4];exact zgI (n:=1) v0 rfl (by rw [zaZ];omega)
  refine ⟨ls.take 1,⟨by simp;omega,fun x hx'=>up x (List.mem_of_mem_take hx')⟩,?_⟩
  rw [zbb (zhn (by rw [t0,h2];rfl) p1)]
 rw [zak (ifNx (by rw [t0,beq_false_of_ne h2]))]
 have hat3:at_ < ls.length:=by omega
 have hw:ls[at_]? = some ls[at_]:=List.getElem?_eq_getElem hat3
 have ow:=hx _ (List.getElem_mem hat3)
 generalize ls[at_]=w at hw ow
 have pD1:Gv (vSl false (vVar 0) (zbJ (vOp (gAdd false) (vVar 2) (cI 1))) sl0) ρ0 Ω (.lst (enS (ls.drop (at_ + 1)))):=by rw [← ze0];exact zgu v0 v21 (by rw [zaZ];omega)
 obtain ⟨w',o1,o2,bw⟩:=zk2 ow.1 (by omega) (c / 256) (by omega) Ω
 refine ⟨ls.take at_ ++ [w'] ++ ls.drop (at_ + 1),⟨by simp;omega,fun x hx'=>?_⟩,?_⟩
 ·simp only [List.mem_append,List.mem_singleton] at hx'
  rcases hx' with (z | z) | z
  ·exact up x (List.mem_of_mem_take z)
  ·subst z;exact ⟨o1,by omega⟩
  ·exact up x (List.mem_of_mem_drop z)
 ·exact retE (ap (ap pT (mid (ziR (zo9 v0 v2 hw) vd bw)) (by simp;omega)) pD1 (by simp;omega))
end M
namespace M
open PySem L2 V2
theorem zkx {b:Nat}:∀ ls:List (List Nat),(∀ t ∈ ls,t.length ≤ b)→sumN ls ≤ b * ls.length
 | [],_=>by simp [sumN]
 | t :: r,h=>by
  have a:=zkx r fun z hz=>h z (by simp [hz])
  have c:=h t (by simp)
  simp only [sumN,List.map_cons,List.sum_cons,List.length_cons,Nat.mul_add,Nat.mul_one] at a ⊢
  omega
theorem RsOk.small {n b:Nat} {ls:List (List Nat)} (h:RsOk n b ls) (hn:n ≤ 30) (hb:b ≤ 1000):Small (J 10 ls)∧sumN ls + ls.length ≤ 100000:=by
 have s:=zkx ls fun t ht=>(h.2 t ht).2
 have m:b * ls.length ≤ 1000 * 30:=Nat.mul_le_mul hb (Nat.le_trans h.1 hn)
 have jl:=J_le 10 ls
 have l:=h.1
 exact ⟨⟨zh4 10 (by decide) fun t ht=>(h.2 t ht).1,by omega⟩,by omega⟩
theorem zlO {l:List Nat} (hs:Small l) (many:Nat) (hm:many=2∨many=3) (x0 x1 x3 x4 x5:Option A) (Ω:Sto) :
  zcy [x0,x1,some (.int many),x3,x4,x5,some (.str (L2S l))] Ω=some (.nx,[x0,x1,some (.int many),x3,x4,x5,some (.str (L2S l))],Ω):=by
 have a1:=zhd hs many hm Ω
 have a2:=zhd hs (5 - many) (by omega) Ω
 have e5:((5 - many:Nat):Int)=5 - (many:Int):=by omega
 rw [e5] at a2
 generalize L2S l=T at a1 a2
 simp [zcy,zaA,a1,a2]
theorem zkv (many:Nat) (hm:many=2∨many=3) (x0 x1 x3 x4 x5:Option A) (Ω:Sto) (ok:Sto→Prop) (hok:∀ Ω,ok Ω):∀ (ls:List (List Nat)) (x6:Option A),(∀ l ∈ ls,Small l) →
  ∃ z6,fFor ok (gN 6) zcy (enS ls) [x0,x1,some (.int many),x3,x4,x5,x6] Ω=some (.nx,[x0,x1,some (.int many),x3,x4,x5,z6],Ω)
 | [],x6,_=>⟨x6,by simp [enS,fFor,hok]⟩
 | l :: ls,x6,h=>by
  obtain ⟨z6,q⟩:=zkv many hm x0 x1 x3 x4 x5 Ω ok hok ls (some (.str (L2S l))) (fun z hz=>h z (by simp [hz]))
  refine ⟨z6,?_⟩
  have t:=zlO (h l (by simp)) many hm x0 x1 x3 x4 x5 Ω
  rw [← q]
  refine zdz (hok _) (ρ0:=[x0,x1,some (.int many),x3,x4,x5,some (.str (L2S l))]) (Ω0:=Ω) ?_ t
  show gN 6 (.str (L2S l)) _ Ω=_
  generalize L2S l=T
  simp
def J78 (ns:List Int) (x many:Int) (rs:List (List Nat)) (Ω:Sto) (i:Nat) (ρ:Ev) (Ω':Sto):Prop:=∃ (ls:List (List Nat)) (x5:Option A),ρ=[some (.scr ns),some (.int x),some (.int many),some (.lst (enS rs)),some (.lst (enS ls)),x5,none]∧Ω'=Ω∧RsOk (20 + i) (200 + 70 * i) ls
theorem zjH (ns:List Int) (x many:Int) (rs:List (List Nat)) (Ω:Sto) (i:Nat) (hi:i ≤ 3) (a:A) (ex:a = .int (i:Int)) (ρ:Ev) (Ω':Sto) (h:J78 ns x many rs Ω i ρ Ω') :
  ∃ ρ0 Ω0 ρ1 Ω1,gN 5 a ρ Ω'=some (.nx,ρ0,Ω0)∧(zbF ρ0 Ω0=some (.nx,ρ1,Ω1)∨zbF ρ0 Ω0=some (.ct,ρ1,Ω1))∧J78 ns x many rs Ω (i + 1) ρ1 Ω1:=by
 obtain ⟨ls,x5,rfl,rfl,hR⟩:=h
 subst ex
 have c:=zko ns 1 Ω' (by decide) (by decide)
 have c0:=zm7 ns 1
 have c1:=znU ns 1
 generalize zhE ns 1=y at c c0 c1
 have m:=zit y (i:Int) Ω' c0 (by omega) (by omega) (by omega)
 have m0:=mix0 y (i:Int)
 generalize mixI y (i:Int)=d at m m0
 obtain ⟨ls',h',q⟩:=zj2 hR (by omega) (by omega) d m0 Ω'
 have h1:gN 5 (.int (i:Int)) [some (.scr ns),some (.int x),some (.int many),some (.lst (enS rs)),some (.lst (enS ls)),x5,none] Ω'=some (.nx,[some (.scr ns),some (.int x),some (.int many),some (.lst (enS rs)),some (.lst (enS ls)),some (.int (i:Int)),none],Ω'):=by
  generalize enS ls=us
  generalize enS rs=vs
  simp
 have h2:zbF [some (.scr ns),some (.int x),some (.int many),some (.lst (enS rs)),some (.lst (enS ls)),some (.int (i:Int)),none] Ω'=some (.nx,[some (.scr ns),some (.int x),some (.int many),some (.lst (enS rs)),some (.lst (enS ls')),some (.int (i:Int)),none],Ω'):=by
  generalize enS ls=us at q
  generalize enS ls'=us' at q
  generalize enS rs=vs
  simp [zbF,zaA,c,m,q]
 exact ⟨_,_,_,_,h1,Or.inl h2,ls',some (.int (i:Int)),rfl,rfl,⟨by have:=h'.1;omega,fun z hz=>⟨(h'.2 z hz).1,by have:=(h'.2 z hz).2;omega⟩⟩⟩
theorem zmU (ns:List Int) (hns:ns.length ≤ 63):∃ W,zhq [.scr ns] []=some (.ok (.bl true),W):=by
 have c:=zko ns 0 [] (by decide) (by decide)
 have c0:=zm7 ns 0
 have c1:=znU ns 0
 generalize zhE ns 0=x at c c0 c1
 obtain ⟨many,hmy⟩:=Int.eq_ofNat_of_zero_le (show 0 ≤ 2 + x % 2 by omega)
 have hm:many=2∨many=3:=by omega
 obtain ⟨rs0,hr0,rw1⟩:=zl1 ns hns many (by omega) []
 have gz:=zdM (ls:=rs0) (fun z hz=>(hr0.2 z hz).1) []
 have gz':gEq (.lst (enS rs0)) (.lst []) []=some (.ok (.bl rs0.isEmpty),[]):=gz
 have e32:Str.ofString " " = ⟨#[32]⟩:=rfl
 have e10:Str.ofString "\n" = ⟨#[10]⟩:=rfl
 obtain ⟨rs,hrs,st⟩ : ∃ rs,RsOk 20 200 rs∧sIf (zaI (vOp gEq (vVar 3) (vLst false a0))) (sAsg (vLst false (zac (vBS zdo (cS " ") (zac (vSl false (vLst false (zac (cS "1") (zac (cS "2") (zac (cS "3") a0)))) sl0 (zbJ (vVar 2))) a0)) a0)) (gN 3)) sNx [some (.scr ns),some (.int x),some (.int many),some (.lst (enS rs0)),none,none,none] []=some (.nx,[some (.scr ns),some (.int x),some (.int many),some (.lst (enS rs)),none,none,none],[]):=by
  have tz:(zaI (vOp gEq (vVar 3) (vLst false a0))) [some (.scr ns),some (.int x),some (.int many),some (.lst (enS rs0)),none,none,none] []=some (.ok rs0.isEmpty,[]):=by
   generalize enS rs0=us at gz'
   simp [gz',mkL]
  by_cases h:rs0=[]
  ·have hl3:Gv (vLst false (zac (cS "1") (zac (cS "2") (zac (cS "3") a0)))) [some (.scr ns),some (.int x),some (.int many),some (.lst (enS rs0)),none,none,none] [] (.lst (enS [[49],[50],[51]])) :=
    zeK (xs:=enS [[49],[50],[51]]) (zaR rfl (zaR rfl (zaR rfl zdK))) (by simp [enS])
   have sl3:Gv (vSl false (vLst false (zac (cS "1") (zac (cS "2") (zac (cS "3") a0)))) sl0 (zbJ (vVar 2))) [some (.scr ns),some (.int x),some (.int many),some (.lst (enS rs0)),none,none,none] [] (.lst (enS (([[49],[50],[51]] : List (List Nat)).take many))):=by
    rw [← ze4]
    exact zgI hl3 (by simp [Gv]) (by rw [zaZ];simp;omega)
   have l3:(([[49],[50],[51]] : List (List Nat)).take many).length ≤ 3:=by simp;omega
   have o3:∀ z ∈ (([[49],[50],[51]] : List (List Nat)).take many),okL z∧z.length ≤ 1:=fun z hz=>by
    have:=List.mem_of_mem_take hz
    simp only [List.mem_cons,List.not_mem_nil,or_false] at this
    rcases this with rfl | rfl | rfl <;> exact ⟨fun y hy=>by simp at hy;omega,by simp⟩
   have s3:=zkx _ fun t ht=>(o3 t ht).2
   have jn:=zfD e32 sl3 (by omega)
   have jl:=J_le 32 (([[49],[50],[51]] : List (List Nat)).take many)
   have jo:=zh4 32 (by decide) (xs:=(([[49],[50],[51]] : List (List Nat)).take many)) fun t ht=>(o3 t ht).1
   generalize J 32 (([[49],[50],[51]] : List (List Nat)).take many)=r at jn jl jo
   have fin:Gv (vLst false (zac (vBS zdo (cS " ") (zac (vSl false (vLst false (zac (cS "1") (zac (cS "2") (zac (cS "3") a0)))) sl0 (zbJ (vVar 2))) a0)) a0)) [some (.scr ns),some (.int x),some (.int many),some (.lst (enS rs0)),none,none,none] [] (.lst (enS [r])):=zeK (xs:=[.str (L2S r)]) (zaR jn zdK) (by simp)
   refine ⟨[r],⟨by simp,fun z hz=>by rw [List.mem_singleton] at hz;subst hz;exact ⟨jo,by omega⟩⟩,?_⟩
   have ht:rs0.isEmpty=true:=by rw [h];rfl
   rw [ht] at tz
   unfold sIf
   rw [zeg tz]
   simp only [if_true]
   unfold sAsg
   rw [zeg fin]
   generalize enS [r]=us
   simp
  ·have ht:rs0.isEmpty=false:=by cases rs0 with | nil=>exact absurd rfl h | cons y r=>rfl
   rw [ht] at tz
   exact ⟨rs0,hr0,ifNx tz⟩
 obtain ⟨n,hn⟩:=Int.eq_ofNat_of_zero_le (show 0 ≤ x / 2 % 4 by omega)
 obtain ⟨ρ1,Ω1,q,ls,x5,rfl,rfl,hls⟩:=ze2 (ok:=fun _=>True) (g:=gN 5) (b:=zbF)
  (J78 ns x many rs []) (fun _ _ _ _=>trivial)
  ((List.range n).map fun (i:Nat)=>A.int (0 + (i:Int))) 0 [some (.scr ns),some (.int x),some (.int many),some (.lst (enS rs)),some (.lst (enS rs)),none,none] [] ⟨rs,none,rfl,rfl,hrs⟩
  (fun i a ρ Ω' ha h=>by
   have hi:i < n:=by simpa using (List.getElem?_eq_some_iff.mp ha).1
   have ex:a = .int (i:Int):=by
    rw [List.getElem?_map,List.getElem?_range hi] at ha
    simpa using ha.symm
   rw [Nat.zero_add] at h ⊢
   exact zjH ns x many rs [] i (by omega) a ex ρ Ω' h)
 simp only [List.length_map,List.length_range,Nat.zero_add] at hls
 have sb:=RsOk.small hls (by omega) (by omega)
 have sr:=RsOk.small hrs (by omega) (by omega)
 have sN:Small []:=⟨fun a ha=>by simp at ha,by simp⟩
 have s1:Small [10]:=⟨fun a ha=>by simp at ha;omega,by simp⟩
 let tx:List (List Nat):=[J 10 ls,J 10 rs,J 10 ls,[],[10]]
 obtain ⟨z6,qa⟩:=zkv many hm (some (.scr ns)) (some (.int x)) (some (.lst (enS rs))) (some (.lst (enS ls))) x5 [] (fun Ω'=>zbG Ω' (.lst (enS tx))=some (enS tx)) (fun _=>rfl) tx none (fun l hl=>by
  simp only [tx,List.mem_cons,List.not_mem_nil,or_false] at hl
  rcases hl with rfl | rfl | rfl | rfl | rfl
  ·exact sb.1
  ·exact sr.1
  ·exact sb.1
  ·exact sN
  ·exact s1)
 refine ⟨[],?_⟩
 show trim [] (outR (zec [some (.scr ns),none,none,none,none,none,none] []))=_
 have d2:CDiv x 2:=cdiv (by decide) (by decide)
 have e:zec [some (.scr ns),none,none,none,none,none,none] []=some (.ret (.bl true),[some (.scr ns),some (.int x),some (.int many),some (.lst (enS rs)),some (.lst (enS ls)),x5,z6],[]):=by
  unfold zec
  rw [zak (ρ1:=[some (.scr ns),some (.int x),none,none,none,none,none]) (Ω':=[]) (by simp [zaA,c])]
  rw [zak (ρ1:=[some (.scr ns),some (.int x),some (.int many),none,none,none,none]) (Ω':=[]) (by simp [hmy])]
  rw [zak (ρ1:=[some (.scr ns),some (.int x),some (.int many),some (.lst (enS rs0)),none,none,none]) (Ω':=[]) (by
   generalize enS rs0=us at rw1
   simp [zaA,rw1])]
  rw [zak st]
  rw [zak (ρ1:=[some (.scr ns),some (.int x),some (.int many),some (.lst (enS rs)),some (.lst (enS rs)),none,none]) (Ω':=[]) (by
   generalize enS rs=us
   simp)]
  rw [zak (ρ1:=[some (.scr ns),some (.int x),some (.int many),some (.lst (enS rs)),some (.lst (enS ls)),x5,none]) (Ω':=[]) (by
   rw [forO (S:=zc8 0 n) (Ω':=[]) (rngO (j:=(n:Int)) (by
    generalize enS rs=us
    simp [d2,hn]) (by unfold zbx;omega))]
   exact q)]
  rw [zak (ρ1:=[some (.scr ns),some (.int x),some (.int many),some (.lst (enS rs)),some (.lst (enS ls)),x5,z6]) (Ω':=[]) (by
   have v4:Gv (vVar 4) [some (.scr ns),some (.int x),some (.int many),some (.lst (enS rs)),some (.lst (enS ls)),x5,none] [] (.lst (enS ls)):=rfl
   have v3:Gv (vVar 3) [some (.scr ns),some (.int x),some (.int many),some (.lst (enS rs)),some (.lst (enS ls)),x5,none] [] (.lst (enS rs)):=rfl
   have p4:=zfD e10 v4 sb.2
   have p3:=zfD e10 v3 sr.2
   have pl:=zeK (zaR p4 (zaR p3 (zaR p4 (zaR (f:=cS "") (x := .str (L2S [])) rfl (zaR (f:=cS "\n") (x := .str (L2S [10])) rfl zdK))))) (by simp)
   have pl':Gv _ _ _ (.lst (enS tx)):=pl
   rw [forO (S:=srcOf (.lst (enS tx)) (enS tx)) (Ω':=[]) (by
    unfold vSeq
    rw [zd1 pl']
    generalize enS tx=us
    simp [srcOf])]
   exact qa)]
  generalize enS rs=us
  generalize enS ls=vs
  simp
 rw [e]
 simp only [zbi]
 exact zbc
end M
namespace K78
open PySem L2 V2 PyProof.Rows M
def top (i:Nat):Stmt:=PySem.Challenge.pw_rankpouch_k78_no_text.main.body.getD i (.Pass ⟨0,0,0,0⟩)
abbrev zgd:Stmt:=top 12
abbrev zci:Stmt:=top 13
abbrev zbe:Stmt:=top 14
abbrev zbz:Stmt:=top 15
abbrev zcj:Stmt:=top 17
abbrev zbZ:Stmt:=top 18
abbrev zbn:Stmt:=top 19
abbrev zbH:Stmt:=top 20
abbrev zbD:Stmt:=top 21
abbrev zaX:Stmt:=top 22
abbrev zba:Stmt:=top 23
abbrev za9:Stmt:=top 24
abbrev zaL:Stmt:=top 25
abbrev zaK:Stmt:=top 26
abbrev zbI:Stmt:=top 27
abbrev zgU:Stmt:=top 28
abbrev zcT:Stmt:=inClass (top 9) 0
theorem zka:zmh zcT "row" "RankError" "self" "row":=⟨⟨rfl,rfl,rfl,by decide +kernel,rfl,by decide +kernel,by decide +kernel⟩,rfl,rfl,rfl,by decide +kernel,⟨_,_,_,_,_,_,_,_,_,_,rfl,fun _=>rfl,fun _=>rfl,fun _=>⟨_,rfl⟩,fun _=>rfl,fun _=>rfl,fun Y hN hS=>zlz (by rw [hN];rfl) (by rw [hS];exact .inl rfl)⟩⟩
structure Blt (mg:Str→Option Value):Prop where
 ValueError:mg "ValueError" = none
 all:mg "all" = none
 bool:mg "bool" = none
 enumerate:mg "enumerate" = none
 int:mg "int" = none
 isinstance:mg "isinstance" = none
 len:mg "len" = none
 list:mg "list" = none
 max:mg "max" = none
 min:mg "min" = none
 range:mg "range" = none
 str:mg "str" = none
 tuple:mg "tuple" = none
section
variable {P:Program} {w:World} {K:PySem.W.Frag} {mg:Str→Option Value} {base:Heap}
theorem zeN:zat ["part", "figures"] ["part"] (zab zbz):=⟨rfl,rfl,rfl,by decide +kernel,rfl,by decide +kernel,by decide +kernel⟩
theorem zh5 (B:Blt mg) (h:HasFn K mg "is_number" zbz) (zcJ:∃ t,mg "MOST_FIGURES" = some (.int 60 t)):DefV P w K mg base "is_number" 1 ["part"] zc3:=by
 refine DefV.of h zeN (fun _ _ _ _ _ _ us hl=>us1 us hl (fun _=>rfl)) (fun f cdv A outer s H E hr=>?_)
 exact (zaf (zaD (i:=1) zeN.nd rfl (Or.inl rfl) (zqv (zeP (zdb PySem.F.slot_str_startswith PySem.F.type_str_startswith zhM zje (vv 0) (zaa zar zad))) (zfE (vv 0) zae) (vv 0)))
  (zaf (zch (VW.vt (zhD (zaU o_lt (zav zhV rfl B.len PySem.boot_len (zaa (vv 1) zad)) zae (zaC _)) (ze7 (zaU o_gt (zav zhV rfl B.len PySem.boot_len (zaa (vv 1) zad)) (zmk rfl zcJ) (zaC _)))))
   (zag (zaE zhQ))
   zaO)
  (zaf (zch (zfh (zeP (zav (zmE rfl) rfl B.all PyProof.Rows.boot_all (zaa (zjv false ["sign"] [] rfl (LcOk.of (zab zbz) ["part", "figures"] rfl rfl (by decide +kernel)) (zmw (vv 1)) (fun cl C s H fp=>⟨(zbL (i:=0) (show (["sign"] : List Str).Nodup by decide +kernel) rfl (Or.inl rfl)),zgm,(zea zqa (vv 0) zar rfl)⟩)) zad))))
   (zag (zaE zhQ))
   zaO)
  (zag (zaE (zqM (zea (o_eq hr.units) (vv 0) zar (zaC _)) (zhr (zkT (zdb PySem.F.slot_str_startswith PySem.F.type_str_startswith zhM zje (vv 1) (zaa zar zad))))))))))
theorem zfx:zat ["_law_cell_here", "_law_k", "_law_first"] ["_law_cell_here", "_law_k"] (zab zcj):=⟨rfl,rfl,rfl,by decide +kernel,rfl,by decide +kernel,by decide +kernel⟩
theorem zjz (B:Blt mg) (h:HasFn K mg "_law_mix" zcj):DefV P w K mg base "_law_mix" 1 ["_law_cell_here", "_law_k"] zaH:=by
 refine DefV.of h zfx (fun _ _ _ _ _ _ us hl=>us2 us hl (fun _ _=>rfl)) (fun f cdv A outer s H E hr=>?_)
 exact (zaf (zaD (i:=2) zfx.nd rfl (Or.inl rfl) (zal zdd (zal zjw (zal (zbR false) (vv 0) zae) (zal (zbR false) zae (zal zjw zae (vv 1)))) zae))
  (zag (zaE (zal zdd (zal (zbR false) (zal (zbR false) (zal zjw (zal zfP (vv 2) zae) zae) (zal zjw (vv 2) (zal (zbR false) (zal zjw (vv 1) (vv 1)) zae))) (vv 1)) zae))))
theorem zgt:zat ["_law_error"] ["_law_error"] (zab zbH):=⟨rfl,rfl,rfl,by decide +kernel,rfl,by decide +kernel,by decide +kernel⟩
theorem zhw (B:Blt mg) (h:HasFn K mg "_law_alone" zbH) (C_NoPlace:ClsN K mg "NoPlace") (C_NoPouch:ClsN K mg "NoPouch") (C_NoRow:ClsN K mg "NoRow") (C_NoSize:ClsN K mg "NoSize") (C_NoTimes:ClsN K mg "NoTimes") (C_RankError:ClsN K mg "RankError") (C_Unlike:ClsN K mg "Unlike") (C_Wrong:ClsN K mg "Wrong") (T_all:XTab K ["NoText"] ["RankError", "NoRow", "NoPlace", "NoPouch", "NoSize", "Wrong", "NoTimes", "Unlike", "NoText"]) {p d:Addr} {oe:Obj} {e:Exc} (he:Cau K oe d e):DefP P w K mg base "_law_alone" 1 ["_law_error"] p oe (zbg p e):=by
 refine DefP.of h zgt (fun _ _ _ _ _ _ us hl=>us1 us hl (fun _=>rfl)) (fun f cdv A outer s H E hr=>?_)
 exact (zaf (zch (VW.vt (zhD (zfh (zeP (zav (zlp (List.mem_append_right _ (List.mem_singleton_self _)) T_all he.cls) rfl B.isinstance boot_isinstance (zaa (vv 0) (zaa (zeM C_RankError rfl) zad))))) (ze7 (zfh (zeP (zav (zlp (List.mem_append_right _ (List.mem_singleton_self _)) T_all he.cls) rfl B.isinstance boot_isinstance (zaa (vv 0) (zaa (zmj rfl B.ValueError zff) zad))))))))
   (zag (zaE zhQ))
   zaO)
  (zag (zaE (zkT (zav (zlp (List.mem_append_right _ (List.mem_singleton_self _)) T_all he.cls) rfl B.isinstance boot_isinstance (zaa (vv 0) (zaa (zmM (zaa (zeM C_NoPlace rfl) (zaa (zeM C_NoPouch rfl) (zaa (zeM C_NoRow rfl) (zaa (zeM C_NoSize rfl) (zaa (zeM C_NoTimes rfl) (zaa (zeM C_Unlike rfl) (zaa (zeM C_Wrong rfl) zad)))))))) zad)))))))
theorem za7:zat ["_law_word", "_law_cell_here", "_law_signs", "_law_at", "_law_figures", "_law_some"] ["_law_word", "_law_cell_here"] (zab zaX):=⟨rfl,rfl,rfl,by decide +kernel,rfl,by decide +kernel,by decide +kernel⟩
theorem zfG (B:Blt mg) (h:HasFn K mg "_law_bad_word" zaX):DefV P w K mg base "_law_bad_word" 1 ["_law_word", "_law_cell_here"] zbT:=by
 refine DefV.of h za7 (fun _ _ _ _ _ _ us hl=>us2 us hl (fun _ _=>rfl)) (fun f cdv A outer s H E hr=>?_)
 exact (zqz (i:=2) za7.nd rfl (Or.inl rfl)
  (zkE (zaD (i:=3) za7.nd rfl (Or.inl rfl) (zal zdd (zal zfP (vv 1) zae) (zal (zbR false) (zav zhV rfl B.len PySem.boot_len (zaa (vv 0) zad)) zae)))
  (zkL (znM (i:=4) za7.nd rfl (Or.inl rfl) (zir (vv 0)))
  (zaf (zaD (i:=5) za7.nd rfl (Or.inl rfl) (zbq false (zaa (zal (zeL false) zar (vv 0)) (zaa zar (zaa (zal (zeL false) zar (vv 0)) (zaa (zal zoA zar zae) (zaa (zal (zeL false) (zal (zeL false) (zfR (vv 0) (vv 3)) (zmI (vv 2) (zal zdd (zal zfP (vv 1) zae) (zav zhV rfl B.len PySem.boot_len (zaa (vv 2) zad))) (fun _ _=>rfl))) (zfE (vv 0) (vv 3))) (zaa zar zad))))))))
  (zag (zaE (zfF (zal (zbR false) (vv 5) (zbq false (zaa zar (zaa (zal (zeL false) (zal (zeL false) (zfR (vv 4) zae) zar) (vv 4)) zad)))) (zal zdd (vv 1) zae) (fun _ _=>rfl))))))))
theorem zb0:zat ["_law_word", "_law_figures"] ["_law_word"] (zab zaL):=⟨rfl,rfl,rfl,by decide +kernel,rfl,by decide +kernel,by decide +kernel⟩
theorem zeQ (B:Blt mg) (h:HasFn K mg "_law_is_number" zaL):DefV P w K mg base "_law_is_number" 1 ["_law_word"] zbv:=by
 refine DefV.of h zb0 (fun _ _ _ _ _ _ us hl=>us1 us hl (fun _=>rfl)) (fun f cdv A outer s H E hr=>?_)
 exact (zaf (zaD (i:=1) zb0.nd rfl (Or.inl rfl) (vv 0))
  (zaf (zch (zaU (o_eq hr.units) (zfR (vv 0) zae) zar (zaC _))
   (zag (zaD (i:=1) zb0.nd rfl (Or.inl rfl) (zfE (vv 0) zae)))
   zaO)
  (zaf (zch (VW.vt (zhD (zaU (o_eq hr.units) (vv 1) zar (zaC _)) (zhD (zaU o_gt (zav zhV rfl B.len PySem.boot_len (zaa (vv 1) zad)) zae (zaC _)) (ze7 (VW.vt (zmz (zaU (o_ne hr.units) (vv 0) zar (zaC _)) (zli (zaU (o_eq hr.units) (zmI (vv 1) zae (fun _ _=>rfl)) zar (zaC _)))))))))
   (zag (zaE zhQ))
   zaO)
  (zag (zaE (zea (o_eq hr.units) (zjv false ["_law_sign"] [] rfl (LcOk.of (zab zaL) ["_law_word", "_law_figures"] rfl rfl (by decide +kernel)) (zmw (vv 1)) (fun cl C s H fp=>⟨(zbL (i:=0) (show (["_law_sign"] : List Str).Nodup by decide +kernel) rfl (Or.inl rfl)),(zkM (zaU zpe (vv 0) zar rfl)),(vv 0)⟩)) (zbq false zad) (zaC _)))))))
theorem zdr:zat ["_law_script", "_law_k", "_law_cell_here"] ["_law_script", "_law_k"] (zab zbZ):=⟨rfl,rfl,rfl,by decide +kernel,rfl,by decide +kernel,by decide +kernel⟩
theorem zih (B:Blt mg) (h:HasFn K mg "_law_cell" zbZ) (zaF:DefV P w K mg base "_law_mix" 1 ["_law_cell_here", "_law_k"] zaH):DefV P w K mg base "_law_cell" 2 ["_law_script", "_law_k"] za3:=by
 refine DefV.of h zdr (fun _ _ _ _ _ _ us hl=>us2 us hl (fun _ _=>rfl)) (fun f cdv A outer s H E hr=>?_)
 exact (zaf (zaD (i:=2) zdr.nd rfl (Or.inl rfl) zae)
  (zaf (zch (zaU o_lt (vv 1) (zav zeS rfl B.len PySem.boot_len (zaa (vv 0) zad)) (zaC _))
   (zag (zaD (i:=2) zdr.nd rfl (Or.inl rfl) (zal zdd (zfF (vv 0) (vv 1) (fun _ _=>rfl)) zae)))
   zaO)
  (zag (zaE (zbU zap zaF (hr.mono (by decide)) rfl (zaa (vv 2) (zaa (zal (zbR false) (vv 1) zae) zad)))))))
theorem zbs:zat ["_law_cell_here", "_law_size", "_law_number_here", "_law_k"] ["_law_cell_here"] (zab zbn):=⟨rfl,rfl,rfl,by decide +kernel,rfl,by decide +kernel,by decide +kernel⟩
theorem zgP (B:Blt mg) (h:HasFn K mg "_law_number" zbn) (zaF:DefV P w K mg base "_law_mix" 1 ["_law_cell_here", "_law_k"] zaH):DefV P w K mg base "_law_number" 2 ["_law_cell_here"] zaJ:=by
 refine DefV.of h zbs (fun _ _ _ _ _ _ us hl=>us1 us hl (fun _=>rfl)) (fun f cdv A outer s H E hr=>?_)
 exact (zaf (zaD (i:=1) zbs.nd rfl (Or.inl rfl) (zal (zbR false) zae (zal zdd (zal zfP (vv 0) zae) zae)))
  (zaf (zaD (i:=2) zbs.nd rfl (Or.inl rfl) (zal (zbR false) zae (zal zdd (zbU zap zaF (hr.mono (by decide)) rfl (zaa (vv 0) (zaa zae zad))) zae)))
  (zaf (zgf zap.passes rfl (zfi rfl B.range (zaa (zal zhm (vv 1) zae) zad)) (zbL (i:=3) zbs.nd rfl (Or.inl rfl))
   (zag (zaD (i:=2) zbs.nd rfl (Or.inl rfl) (zal (zbR false) (zal zjw (vv 2) zae) (zal zdd (zbU zap zaF (hr.mono (by decide)) rfl (zaa (vv 0) (zaa (zal (zbR false) zae (vv 3)) zad))) zae)))))
  (zag (zaE (zfF (zbq false (zaa zae (zaa zae (zaa (zal zdd (zal zfP (vv 0) zae) zae) (zaa (zal zhm (zal zhm zae zae) (zal zdd (zal zfP (vv 0) zae) zae)) (zaa (vv 2) (zaa (zal zhm zae (vv 2)) (zaa (zal zhm (zal zpb zae zae) zae) (zaa (zal zhm zae (zal zpb zae zae)) zad))))))))) (zal zdd (vv 0) zae) (fun _ _=>rfl)))))))
theorem zbO:zat ["_law_row", "_law_cell_here", "_law_words", "_law_at", "_law_form"] ["_law_row", "_law_cell_here"] (zab zba):=⟨rfl,rfl,rfl,by decide +kernel,rfl,by decide +kernel,by decide +kernel⟩
theorem zfZ (B:Blt mg) (h:HasFn K mg "_law_bad_row" zba) (zcr:DefV P w K mg base "_law_bad_word" 1 ["_law_word", "_law_cell_here"] zbT):DefV P w K mg base "_law_bad_row" 2 ["_law_row", "_law_cell_here"] zb7:=by
 refine DefV.of h zbO (fun _ _ _ _ _ _ us hl=>us2 us hl (fun _ _=>rfl)) (fun f cdv A outer s H E hr=>?_)
 exact (zaf (zaD (i:=2) zbO.nd rfl (Or.inl rfl) (zdb PySem.F.slot_str_split PySem.F.type_str_split zc1 (m_split false) (vv 0) (zaa zar zad)))
  (zaf (zaD (i:=3) zbO.nd rfl (Or.inl rfl) (zal zdd (zal zfP (vv 1) zae) (zav zeS rfl B.len PySem.boot_len (zaa (vv 2) zad))))
  (zaf (zaD (i:=4) zbO.nd rfl (Or.inl rfl) (zal zdd (vv 1) zae))
  (zaf (zch (zaU (o_eq hr.units) (vv 4) zae (zaC _))
   (zag (zaE (zal (zeL false) zar (vv 0))))
   zaO)
  (zaf (zch (zaU (o_eq hr.units) (vv 4) zae (zaC _))
   (zag (zaE (zal (zeL false) (vv 0) zar)))
   zaO)
  (zaf (zch (zaU (o_eq hr.units) (vv 4) zae (zaC _))
   (zag (zaE (zdb PySem.F.slot_str_join PySem.F.type_str_join zcU zd8 zar (zaa (zal (zbR false) (zal (zbR false) (za4 false (vv 2) zbE (zbA (vv 3))) (zbq false (zaa zar zad))) (za4 false (vv 2) (zbA (vv 3)) zbE)) zad))))
   zaO)
  (zaf (zch (zaU (o_eq hr.units) (vv 4) zae (zaC _))
   (zag (zaE (zdb PySem.F.slot_str_join PySem.F.type_str_join zcU zd8 zar (zaa (zal (zbR false) (zal (zbR false) (za4 false (vv 2) zbE (zbA (vv 3))) (zbq false (zaa zar zad))) (za4 false (vv 2) (zbA (vv 3)) zbE)) zad))))
   zaO)
  (zaf (zch (zaU (o_eq hr.units) (vv 4) zae (zaC _))
   (zag (zaE (zdb PySem.F.slot_str_join PySem.F.type_str_join zcU zd8 zar (zaa (zal (zbR false) (za4 false (vv 2) zbE (zbA (vv 3))) (za4 false (vv 2) (zbA (zal (zbR false) (vv 3) zae)) zbE)) zad))))
   zaO)
  (zag (zaE (zdb PySem.F.slot_str_join PySem.F.type_str_join zcU zd8 zar (zaa (zal (zbR false) (zal (zbR false) (za4 false (vv 2) zbE (zbA (vv 3))) (zbq false (zaa (zbU zap zcr (hr.mono (by decide)) rfl (zaa (zfF (vv 2) (vv 3) (fun _ _=>rfl)) (zaa (zal zfP (vv 1) zae) zad))) zad))) (za4 false (vv 2) (zbA (zal (zbR false) (vv 3) zae)) zbE)) zad))))))))))))
theorem zbl:zat ["_law_text", "_law_many", "_law_k", "_law_row", "_law_words"] ["_law_text", "_law_many"] (zab zaK):=⟨rfl,rfl,rfl,by decide +kernel,rfl,by decide +kernel,by decide +kernel⟩
theorem zeV (B:Blt mg) (h:HasFn K mg "_law_first_bad" zaK) (zcg:DefV P w K mg base "_law_is_number" 1 ["_law_word"] zbv):DefV P w K mg base "_law_first_bad" 2 ["_law_text", "_law_many"] za1:=by
 refine DefV.of h zbl (fun _ _ _ _ _ _ us hl=>us2 us hl (fun _ _=>rfl)) (fun f cdv A outer s H E hr=>?_)
 exact (zaf (zgf zap.passes rfl (zkd rfl B.enumerate (zdb PySem.F.slot_str_split PySem.F.type_str_split zc1 (m_split false) (vv 0) (zaa zar zad))) (zmq rfl (ze5 (zbL (i:=2) zbl.nd rfl (Or.inl rfl)) (ze5 (zbL (i:=3) zbl.nd rfl (Or.inl rfl)) zk4)))
   (zaf (zaD (i:=4) zbl.nd rfl (Or.inl rfl) (zdb PySem.F.slot_str_split PySem.F.type_str_split zc1 (m_split false) (vv 3) (zaa zar zad)))
   (zag (zch (VW.vt (zhD (zaU (o_ne hr.units) (zav zeS rfl B.len PySem.boot_len (zaa (vv 4) zad)) (vv 1) (zaC _)) (ze7 (zaU (o_ne hr.units) (zjv false ["_law_word"] [] rfl (LcOk.of (zab zaK) ["_law_text", "_law_many", "_law_k", "_law_row", "_law_words"] rfl rfl (by decide +kernel)) (ziT (vv 4)) (fun cl C s H fp=>⟨(zbL (i:=0) (show (["_law_word"] : List Str).Nodup by decide +kernel) rfl (Or.inl rfl)),(zkM (zfh (zeP (zfI (ps:=["_law_word"]) zcg.calm (by exact hr.mono (by decide)) (by exact rfl) (zaa (vv 0) zad))))),(vv 0)⟩)) (zbq false zad) (zaC _)))))
    (zag (zaE (vv 2)))
    zaO))))
  (zag (zaE zf3)))
theorem zb8:zat ["text", "many", "rows", "at", "line", "parts"] ["text", "many"] (zab zbe):=⟨rfl,rfl,rfl,by decide +kernel,rfl,by decide +kernel,by decide +kernel⟩
theorem ziA (B:Blt mg) (h:HasFn K mg "read_rows" zbe) (zdZ:DefV P w K mg base "is_number" 1 ["part"] zc3) (O_NoText:OwnF K mg "NoText" "row"):DefV P w K mg base "read_rows" 3 ["text", "many"] zaq:=by
 refine DefV.of h zb8 (fun _ _ _ _ _ _ us hl=>us2 us hl (fun _ _=>rfl)) (fun f cdv A outer s H E hr=>?_)
 exact (zaf (zaD (i:=2) zb8.nd rfl (Or.inl rfl) (zbq true zad))
  (zaf (zgf zap.passes rfl (zkd rfl B.enumerate (zdb PySem.F.slot_str_split PySem.F.type_str_split zc1 (m_split false) (vv 0) (zaa zar zad))) (zmq rfl (ze5 (zbL (i:=3) zb8.nd rfl (Or.inl rfl)) (ze5 (zbL (i:=4) zb8.nd rfl (Or.inl rfl)) zk4)))
   (zaf (zaD (i:=5) zb8.nd rfl (Or.inl rfl) (zdb PySem.F.slot_str_split PySem.F.type_str_split zc1 (m_split false) (vv 4) (zaa zar zad)))
   (zaf (zch (VW.vt (zhD (zaU (o_ne hr.units) (zav zeS rfl B.len PySem.boot_len (zaa (vv 5) zad)) (vv 1) (zaC _)) (ze7 (zfh (zeP (zav (zmE rfl) rfl B.all PyProof.Rows.boot_all (zaa (zjv false ["part"] [] rfl (LcOk.of (zab zbe) ["text", "many", "rows", "at", "line", "parts"] rfl rfl (by decide +kernel)) (ziT (vv 5)) (fun cl C s H fp=>⟨(zbL (i:=0) (show (["part"] : List Str).Nodup by decide +kernel) rfl (Or.inl rfl)),zgm,(zfI (ps:=["part"]) zdZ.calm (by exact hr.mono (by decide)) (by exact rfl) (zaa (vv 0) zad))⟩)) zad)))))))
    (zag (zkm (k:=0) zap rfl O_NoText (hr.mono (by decide)) rfl (zaa (vv 3) zad)))
    zaO)
   (zag (zkt (zpy PySem.F.plainAttrs_list PySem.F.slot_list_append PySem.F.type_list_append zhv zi2 (vv 2) (zaa (zfM zp4 rfl B.tuple PyProof.Rows.boot_tuple (zaa (zjv false ["part"] [] rfl (LcOk.of (zab zbe) ["text", "many", "rows", "at", "line", "parts"] rfl rfl (by decide +kernel)) (ziT (vv 5)) (fun cl C s H fp=>⟨(zbL (i:=0) (show (["part"] : List Str).Nodup by decide +kernel) rfl (Or.inl rfl)),zgm,(zfM zoH rfl B.int PyProof.Rows.boot_int (zaa (vv 0) zad))⟩)) zad)) zad)))))))
  (zag (zaE (vf 2)))))
theorem zcB:zat ["_law_script", "_law_many", "_law_rows_here", "_law_k", "_law_cell_here"] ["_law_script", "_law_many"] (zab zbD):=⟨rfl,rfl,rfl,by decide +kernel,rfl,by decide +kernel,by decide +kernel⟩
theorem zid (B:Blt mg) (h:HasFn K mg "_law_rows" zbD) (zby:DefV P w K mg base "_law_cell" 2 ["_law_script", "_law_k"] za3) (zaF:DefV P w K mg base "_law_mix" 1 ["_law_cell_here", "_law_k"] zaH) (zcZ:DefV P w K mg base "_law_number" 2 ["_law_cell_here"] zaJ):DefV P w K mg base "_law_rows" 3 ["_law_script", "_law_many"] zc0:=by
 refine DefV.of h zcB (fun _ _ _ _ _ _ us hl=>us2 us hl (fun _ _=>rfl)) (fun f cdv A outer s H E hr=>?_)
 exact (zaf (zaD (i:=2) zcB.nd rfl (Or.inl rfl) (zbq true zad))
  (zaf (zgf zap.passes rfl (zk1 rfl B.range (zaa zae (zaa (zav (zox rfl) rfl B.min boot_min (zaa (zav zeS rfl B.len PySem.boot_len (zaa (vv 0) zad)) (zaa zae zad))) zad))) (zbL (i:=3) zcB.nd rfl (Or.inl rfl))
   (zaf (zaD (i:=4) zcB.nd rfl (Or.inr rfl) (zbU zap zaF (hr.mono (by decide)) rfl (zaa (zbU zap zby (hr.mono (by decide)) rfl (zaa (vv 0) (zaa (vv 3) zad))) (zaa (vv 3) zad))))
   (zag (zkt (zpy PySem.F.plainAttrs_list PySem.F.slot_list_append PySem.F.type_list_append zhv zi2 (vv 2) (zaa (zdb PySem.F.slot_str_join PySem.F.type_str_join zcU zd8 zar (zaa (zjv false ["_law_part"] [4] rfl (LcOk.of (zab zbD) ["_law_script", "_law_many", "_law_rows_here", "_law_k", "_law_cell_here"] rfl rfl (by decide +kernel)) (zfi rfl B.range (zaa (vv 1) zad)) (fun cl C s H fp=>⟨(zbL (i:=0) (show (["_law_part", "_law_cell_here"] : List Str).Nodup by decide +kernel) rfl (Or.inl rfl)),zgm,(zfM zpt rfl B.str PyProof.Rows.boot_str (zaa (zfI (ps:=["_law_cell_here"]) zcZ.calm (by exact hr.mono (by decide)) (by exact rfl) (zaa (zfI (ps:=["_law_cell_here", "_law_k"]) zaF.calm (by exact hr.mono (by decide)) (by exact rfl) (zaa (vv 1) (zaa (vv 0) zad))) zad)) zad))⟩)) zad)) zad))))))
  (zag (zaE (vf 2)))))
theorem zcq:zat ["_law_rows_here", "_law_cell_here", "_law_at", "_law_form"] ["_law_rows_here", "_law_cell_here"] (zab za9):=⟨rfl,rfl,rfl,by decide +kernel,rfl,by decide +kernel,by decide +kernel⟩
theorem zf0 (B:Blt mg) (h:HasFn K mg "_law_spoiled" za9) (zcH:DefV P w K mg base "_law_bad_row" 2 ["_law_row", "_law_cell_here"] zb7):DefV P w K mg base "_law_spoiled" 3 ["_law_rows_here", "_law_cell_here"] zbo:=by
 refine DefV.of h zcq (fun _ _ _ _ _ _ us hl=>us2 us hl (fun _ _=>rfl)) (fun f cdv A outer s H E hr=>?_)
 exact (zaf (zaD (i:=2) zcq.nd rfl (Or.inl rfl) (zal zdd (zal zfP (vv 1) zae) (zav (zoO rfl) rfl B.max boot_max (zaa zae (zaa (zav zeS rfl B.len PySem.boot_len (zaa (vv 0) zad)) zad)))))
  (zaf (zaD (i:=3) zcq.nd rfl (Or.inl rfl) (zal zdd (vv 1) zae))
  (zaf (zch (VW.vt (zhD (zaU (o_eq hr.units) (vv 3) zae (zaC _)) (ze7 (zaU (o_eq hr.units) (vv 0) (zbq false zad) (zaC _)))))
   (zag (zaE (zal (zbR false) (zal (zbR false) (za4 false (vv 0) zbE (zbA (vv 2))) (zbq false (zaa zar zad))) (za4 false (vv 0) (zbA (vv 2)) zbE))))
   zaO)
  (zaf (zch (zaU (o_eq hr.units) (vv 3) zae (zaC _))
   (zag (zaE (zal (zbR false) (vv 0) (zbq false (zaa zar zad)))))
   zaO)
  (zaf (zch (zaU (o_eq hr.units) (vv 3) zae (zaC _))
   (zag (zaE (za4 false (vv 0) zbE (zbA zae))))
   zaO)
  (zag (zaE (zal (zbR false) (zal (zbR false) (za4 false (vv 0) zbE (zbA (vv 2))) (zbq false (zaa (zbU zap zcH (hr.mono (by decide)) rfl (zaa (zfF (vv 0) (vv 2) (fun _ _=>rfl)) (zaa (zal zfP (vv 1) zae) zad))) zad))) (za4 false (vv 0) (zbA (zal (zbR false) (vv 2) zae)) zbE)))))))))
theorem zic:zat ["text", "rows", "head"] ["text"] (zab zgd):=⟨rfl,rfl,rfl,by decide +kernel,rfl,by decide +kernel,by decide +kernel⟩
theorem zo2 (B:Blt mg) (h:HasFn K mg "read" zgd) (zb1:DefV P w K mg base "read_rows" 3 ["text", "many"] zaq):DefV P w K mg base "read" 4 ["text"] zdl:=by
 refine DefV.of h zic (fun _ _ _ _ _ _ us hl=>us1 us hl (fun _=>rfl)) (fun f cdv A outer s H E hr=>?_)
 exact (zaf (zaD (i:=1) zic.nd rfl (Or.inl rfl) (zbU zap zb1 (hr.mono (by decide)) rfl (zaa (vv 0) (zaa zae zad))))
  (zaf (zaD (i:=2) zic.nd rfl (Or.inl rfl) (zfF (vv 1) zae (fun _ _=>rfl)))
  (zag (zaE (zmM (zaa (zfF (vv 2) zae (fun _ _=>rfl)) (zaa (zfF (vv 2) zae (fun _ _=>rfl)) (zaa (zfF (vv 2) zae (fun _ _=>rfl)) (zaa (za4 false (vv 1) (zbA zae) zbE) zad)))))))))
theorem zio:zat ["text"] ["text"] (zab zci):=⟨rfl,rfl,rfl,by decide +kernel,rfl,by decide +kernel,by decide +kernel⟩
theorem zjy (B:Blt mg) (h:HasFn K mg "read_row" zci) (zb1:DefV P w K mg base "read_rows" 3 ["text", "many"] zaq):DefV P w K mg base "read_row" 4 ["text"] zbp:=by
 refine DefV.of h zio (fun _ _ _ _ _ _ us hl=>us1 us hl (fun _=>rfl)) (fun f cdv A outer s H E hr=>?_)
 exact (zaf (zch (zaU (o_eq hr.units) (vv 0) zar (zaC _))
   (zag (zaE (zbq false zad)))
   zaO)
  (zag (zaE (zbU zap zb1 (hr.mono (by decide)) rfl (zaa (vv 0) (zaa zae zad))))))
theorem zaT:zat ["_law_text", "_law_many", "_law_found", "_law_told", "_law_error", "_law_due"] ["_law_text", "_law_many"] (zab zbI):=⟨rfl,rfl,rfl,by decide +kernel,rfl,by decide +kernel,by decide +kernel⟩
theorem zhH (B:Blt mg) (h:HasFn K mg "_law_asked" zbI) (C_NoText:ClsN K mg "NoText") (zce:DefV P w K mg base "_law_first_bad" 2 ["_law_text", "_law_many"] za1) (zkl:DefV P w K mg base "read" 4 ["text"] zdl) (zeH:DefV P w K mg base "read_row" 4 ["text"] zbp) (zdB:∀ {p d:Addr} {oe:Obj} {e:Exc},Cau K oe d e→DefP P w K mg base "_law_alone" 1 ["_law_error"] p oe (zbg p e)) (F_row:XFld K ["NoText"] "row") (T_all:XTab K ["NoText"] ["RankError", "NoRow", "NoPlace", "NoPouch", "NoSize", "Wrong", "NoTimes", "Unlike", "NoText"]):DefV P w K mg base "_law_asked" 5 ["_law_text", "_law_many"] za6:=by
 refine DefV.ofN (DefN.of0 h zaT (fun _ _ _ _ _ _ us hl=>us2 us hl (fun _ _=>rfl)) (fun f cdv A outer s H E hr=>?_))
 exact (zca (VS.v0 (zaD (i:=2) zaT.nd rfl (Or.inl rfl) zf3))
  (zca (VS.v0 (zaD (i:=3) zaT.nd rfl (Or.inl rfl) zf3))
  (zca (znq (i:=4) (rs:=["NoText"]) (ns:=["RankError", "NoRow", "NoPlace", "NoPouch", "NoSize", "Wrong", "NoTimes", "Unlike", "NoText"]) zjT rfl C_NoText rfl T_all zaT.nd rfl rfl (fun W=>(VSs.v0 (zag (zch (zaU (o_eq hr.units) (vv 1) zae (zaC _))
    (zag (zaD (i:=2) zaT.nd rfl (Or.inl rfl) (zbU zhe zkl (hr.mono (by decide)) rfl (zaa (vv 0) zad))))
    (zag (zaD (i:=2) zaT.nd rfl (Or.inl rfl) (zbU zhe zeH (hr.mono (by decide)) rfl (zaa (vv 0) zad))))))))
   (fun p oe d e he=>(zag (zaD (i:=3) zaT.nd rfl (Or.inl rfl) (zbq false (zaa (zo6 (vv 4) (List.mem_append_right _ (List.mem_singleton_self _)) he F_row) (zaa (zm2 (ps:=["_law_error"]) (zdB he) (by exact hr.mono (by decide)) (by exact rfl) (zaa (vv 4) zad)) zad)))))))
  (zca (VS.v0 (zaD (i:=5) zaT.nd rfl (Or.inl rfl) (zfI (ps:=["_law_text", "_law_many"]) zce.calm (by exact hr.mono (by decide)) (by exact rfl) (zaa (vv 0) (zaa (vv 1) zad)))))
  (zca (VS.v0 (zch (VW.vt (zmz (zaU (o_eq hr.units) (vv 0) zar (zaC _)) (zli (zaU (o_eq hr.units) (vv 1) zae (zaC _)))))
   (zag (zaE (zhc (zea zqg (vv 3) zf3 (zaC _)) (zhr (zea (o_eq hr.units) (vv 2) (zbq false zad) (zaC _))))))
   zaO))
  (zca (VS.v0 (zch (zaU zmL (vv 5) zf3 (zaC _))
   (zag (zaE (zhc (zea (o_eq hr.units) (vv 3) (zbq false (zaa (vv 5) (zaa zhQ zad))) (zaC _)) (zhr (zkT (zav zgp rfl B.isinstance boot_isinstance (zaa (zfF (vv 3) zae (fun _ _=>rfl)) (zaa (zmj rfl B.bool PyProof.Rows.boot_bool) zad))))))))
   zaO))
  (zca (VS.v0 (zch (zaU zmL (vv 3) zf3 (zaC _))
   (zag (zaE zhQ))
   zaO))
  (zca (VS.v0 (zch (zaU (o_eq hr.units) (vv 1) zae (zaC _))
   (zag (zaE (zhc (zav zgp rfl B.isinstance boot_isinstance (zaa (vv 2) (zaa (zmj rfl B.tuple PyProof.Rows.boot_tuple) zad))) (zhc (zea (o_eq hr.units) (zav zeS rfl B.len PySem.boot_len (zaa (vv 2) zad)) zae (zaC _)) (zhr (zea (o_eq hr.units) (zav zeS rfl B.len PySem.boot_len (zaa (zfF (vv 2) zae (fun _ _=>rfl)) zad)) (zal zhm (zav zeS rfl B.len PySem.boot_len (zaa (zdb PySem.F.slot_str_split PySem.F.type_str_split zc1 (m_split false) (vv 0) (zaa zar zad)) zad)) zae) (zaC _)))))))
   zaO))
  (VSs.v0 (zag (zaE (zhc (zav zgp rfl B.isinstance boot_isinstance (zaa (vv 2) (zaa (zmj rfl B.list PyProof.Rows.boot_list) zad))) (zhr (zea (o_eq hr.units) (zav zeS rfl B.len PySem.boot_len (zaa (vv 2) zad)) (zav zeS rfl B.len PySem.boot_len (zaa (zdb PySem.F.slot_str_split PySem.F.type_str_split zc1 (m_split false) (vv 0) (zaa zar zad)) zad)) (zaC _)))))))))))))))
theorem zd9:zat ["_law_script", "_law_cell_here", "_law_many", "_law_rows_here", "_law_bad", "_law_k", "_law_text"] ["_law_script"] (zab zgU):=⟨rfl,rfl,rfl,by decide +kernel,rfl,by decide +kernel,by decide +kernel⟩
theorem zqy {f:Addr} {fd:FuncData} (B:Blt mg) (F:Fun K "law" "law" zgU f fd) (zcC:DefV P w K mg base "_law_asked" 5 ["_law_text", "_law_many"] za6) (zby:DefV P w K mg base "_law_cell" 2 ["_law_script", "_law_k"] za3) (zaF:DefV P w K mg base "_law_mix" 1 ["_law_cell_here", "_law_k"] zaH) (zdQ:DefV P w K mg base "_law_rows" 3 ["_law_script", "_law_many"] zc0) (zcG:DefV P w K mg base "_law_spoiled" 3 ["_law_rows_here", "_law_cell_here"] zbo):FnOk P w K mg base (CXE P w) 6 f fd ["_law_script"] (spV K 1 zhq):=by
 refine zmy F zd9 (fun f cdv A outer s H E hr=>?_)
 exact (zaf (zaD (i:=1) zd9.nd rfl (Or.inl rfl) (zbU zap zby (hr.mono (by decide)) rfl (zaa (vv 0) (zaa zae zad))))
  (zaf (zaD (i:=2) zd9.nd rfl (Or.inl rfl) (zal (zbR false) zae (zal zdd (vv 1) zae)))
  (zaf (zaD (i:=3) zd9.nd rfl (Or.inl rfl) (zbU zap zdQ (hr.mono (by decide)) rfl (zaa (vv 0) (zaa (vv 2) zad))))
  (zaf (zch (zaU (o_eq hr.units) (vv 3) (zbq false zad) (zaC _))
   (zag (zaD (i:=3) zd9.nd rfl (Or.inl rfl) (zbq false (zaa (zdb PySem.F.slot_str_join PySem.F.type_str_join zcU zd8 zar (zaa (za4 false (zbq false (zaa zar (zaa zar (zaa zar zad)))) zbE (zbA (vv 2))) zad)) zad))))
   zaO)
  (zaf (zaD (i:=4) zd9.nd rfl (Or.inl rfl) (vv 3))
  (zaf (zgf zap.passes rfl (zfi rfl B.range (zaa (zal zdd (zal zfP (vv 1) zae) zae) zad)) (zbL (i:=5) zd9.nd rfl (Or.inl rfl))
   (zag (zaD (i:=4) zd9.nd rfl (Or.inl rfl) (zbU zap zcG (hr.mono (by decide)) rfl (zaa (vv 4) (zaa (zbU zap zaF (hr.mono (by decide)) rfl (zaa (zbU zap zby (hr.mono (by decide)) rfl (zaa (vv 0) (zaa zae zad))) (zaa (vv 5) zad))) zad))))))
  (zaf (zgf zap.passes rfl (ziT (zbq false (zaa (zdb PySem.F.slot_str_join PySem.F.type_str_join zcU zd8 zar (zaa (vv 4) zad)) (zaa (zdb PySem.F.slot_str_join PySem.F.type_str_join zcU zd8 zar (zaa (vv 3) zad)) (zaa (zdb PySem.F.slot_str_join PySem.F.type_str_join zcU zd8 zar (zaa (vv 4) zad)) (zaa zar (zaa zar zad))))))) (zbL (i:=6) zd9.nd rfl (Or.inl rfl))
   (zag (zch (VW.vt (zhD (zfh (zeP (zbU zap zcC (hr.mono (by decide)) rfl (zaa (vv 6) (zaa (vv 2) zad))))) (ze7 (zfh (zeP (zbU zap zcC (hr.mono (by decide)) rfl (zaa (vv 6) (zaa (zal zhm zae (vv 2)) zad))))))))
    (zag (zaE zhQ))
    zaO)))
  (zag (zaE zhQ)))))))))
end
theorem all_mk {l:PySem.W.OpenLaw} {w:World} {K:PySem.W.Frag} {h:Heap} {mg:Str→Option Value} {fa f0 f1 f2 f3 f4 f5 f6 f7 f8 f9 f10 f11 f12 f13 f14 f15:Addr} (X:K.In h) (G:h.Ns mainGlobals mg) (hfa:mg "law" = some (.ref fa))
  {od0 an0 od1 an1 od2 an2 od3 an3 od4 an4 od5 an5 od6 an6 od7 an7 od8 an8 od9 an9 od10 an10 od11 an11 od12 an12 od13 an13 od14 an14 od15 an15:Option Addr} {sl0 sl1 sl2 sl3 sl4 sl5 sl6 sl7 sl8 sl9 sl10 sl11 sl12 sl13 sl14 sl15:Array (Option Value)} {oc0 kV0 dc0 pm0 cd0 ct0 oc1 kV1 dc1 pm1 cd1 ct1 oc2 kV2 dc2 pm2 cd2 ct2 oc3 kV3 dc3 pm3 cd3 ct3 oc4 kV4 dc4 pm4 cd4 ct4 oc5 kV5 dc5 pm5 cd5 ct5 oc6 kV6 dc6 pm6 cd6 ct6 oc7 kV7 dc7 pm7 cd7 ct7 oc8 kV8 dc8 pm8 cd8 ct8 oc9 kV9 dc9 pm9 cd9 ct9 oc10 kV10 dc10 pm10 cd10 ct10 oc11 kV11 dc11 pm11 cd11 ct11 oc12 kV12 dc12 pm12 cd12 ct12 oc13 kV13 dc13 pm13 cd13 ct13 oc14 kV14 dc14 pm14 cd14 ct14 oc15 kV15 dc15 pm15 cd15 ct15:Value}
  (a0:PySem.W.nsIn K mainGlobals "read" = some (some (.ref f0))) (l0:K.lookup f0=some ⟨oc0,od0, .func (PySem.W.fnOf "read" "read" (zau zgd) (zai zgd) (zab zgd) .none kV0 dc0 pm0 an0 cd0 ct0),sl0⟩) (c0:PySem.W.codeIn K cd0 "read" = true) (k0:PySem.W.keepIn K (.ref f0)=true)
  (a1:PySem.W.nsIn K mainGlobals "read_row" = some (some (.ref f1))) (l1:K.lookup f1=some ⟨oc1,od1, .func (PySem.W.fnOf "read_row" "read_row" (zau zci) (zai zci) (zab zci) .none kV1 dc1 pm1 an1 cd1 ct1),sl1⟩) (c1:PySem.W.codeIn K cd1 "read_row" = true) (k1:PySem.W.keepIn K (.ref f1)=true)
  (a2:PySem.W.nsIn K mainGlobals "read_rows" = some (some (.ref f2))) (l2:K.lookup f2=some ⟨oc2,od2, .func (PySem.W.fnOf "read_rows" "read_rows" (zau zbe) (zai zbe) (zab zbe) .none kV2 dc2 pm2 an2 cd2 ct2),sl2⟩) (c2:PySem.W.codeIn K cd2 "read_rows" = true) (k2:PySem.W.keepIn K (.ref f2)=true)
  (a3:PySem.W.nsIn K mainGlobals "is_number" = some (some (.ref f3))) (l3:K.lookup f3=some ⟨oc3,od3, .func (PySem.W.fnOf "is_number" "is_number" (zau zbz) (zai zbz) (zab zbz) .none kV3 dc3 pm3 an3 cd3 ct3),sl3⟩) (c3:PySem.W.codeIn K cd3 "is_number" = true) (k3:PySem.W.keepIn K (.ref f3)=true)
  (a4:PySem.W.nsIn K mainGlobals "_law_mix" = some (some (.ref f4))) (l4:K.lookup f4=some ⟨oc4,od4, .func (PySem.W.fnOf "_law_mix" "_law_mix" (zau zcj) (zai zcj) (zab zcj) .none kV4 dc4 pm4 an4 cd4 ct4),sl4⟩) (c4:PySem.W.codeIn K cd4 "_law_mix" = true) (k4:PySem.W.keepIn K (.ref f4)=true)
  (a5:PySem.W.nsIn K mainGlobals "_law_cell" = some (some (.ref f5))) (l5:K.lookup f5=some ⟨oc5,od5, .func (PySem.W.fnOf "_law_cell" "_law_cell" (zau zbZ) (zai zbZ) (zab zbZ) .none kV5 dc5 pm5 an5 cd5 ct5),sl5⟩) (c5:PySem.W.codeIn K cd5 "_law_cell" = true) (k5:PySem.W.keepIn K (.ref f5)=true)
  (a6:PySem.W.nsIn K mainGlobals "_law_number" = some (some (.ref f6))) (l6:K.lookup f6=some ⟨oc6,od6, .func (PySem.W.fnOf "_law_number" "_law_number" (zau zbn) (zai zbn) (zab zbn) .none kV6 dc6 pm6 an6 cd6 ct6),sl6⟩) (c6:PySem.W.codeIn K cd6 "_law_number" = true) (k6:PySem.W.keepIn K (.ref f6)=true)
  (a7:PySem.W.nsIn K mainGlobals "_law_alone" = some (some (.ref f7))) (l7:K.lookup f7=some ⟨oc7,od7, .func (PySem.W.fnOf "_law_alone" "_law_alone" (zau zbH) (zai zbH) (zab zbH) .none kV7 dc7 pm7 an7 cd7 ct7),sl7⟩) (c7:PySem.W.codeIn K cd7 "_law_alone" = true) (k7:PySem.W.keepIn K (.ref f7)=true)
  (a8:PySem.W.nsIn K mainGlobals "_law_rows" = some (some (.ref f8))) (l8:K.lookup f8=some ⟨oc8,od8, .func (PySem.W.fnOf "_law_rows" "_law_rows" (zau zbD) (zai zbD) (zab zbD) .none kV8 dc8 pm8 an8 cd8 ct8),sl8⟩) (c8:PySem.W.codeIn K cd8 "_law_rows" = true) (k8:PySem.W.keepIn K (.ref f8)=true)
  (a9:PySem.W.nsIn K mainGlobals "_law_bad_word" = some (some (.ref f9))) (l9:K.lookup f9=some ⟨oc9,od9, .func (PySem.W.fnOf "_law_bad_word" "_law_bad_word" (zau zaX) (zai zaX) (zab zaX) .none kV9 dc9 pm9 an9 cd9 ct9),sl9⟩) (c9:PySem.W.codeIn K cd9 "_law_bad_word" = true) (k9:PySem.W.keepIn K (.ref f9)=true)
  (a10:PySem.W.nsIn K mainGlobals "_law_bad_row" = some (some (.ref f10))) (l10:K.lookup f10=some ⟨oc10,od10, .func (PySem.W.fnOf "_law_bad_row" "_law_bad_row" (zau zba) (zai zba) (zab zba) .none kV10 dc10 pm10 an10 cd10 ct10),sl10⟩) (c10:PySem.W.codeIn K cd10 "_law_bad_row" = true) (k10:PySem.W.keepIn K (.ref f10)=true)
  (a11:PySem.W.nsIn K mainGlobals "_law_spoiled" = some (some (.ref f11))) (l11:K.lookup f11=some ⟨oc11,od11, .func (PySem.W.fnOf "_law_spoiled" "_law_spoiled" (zau za9) (zai za9) (zab za9) .none kV11 dc11 pm11 an11 cd11 ct11),sl11⟩) (c11:PySem.W.codeIn K cd11 "_law_spoiled" = true) (k11:PySem.W.keepIn K (.ref f11)=true)
  (a12:PySem.W.nsIn K mainGlobals "_law_is_number" = some (some (.ref f12))) (l12:K.lookup f12=some ⟨oc12,od12, .func (PySem.W.fnOf "_law_is_number" "_law_is_number" (zau zaL) (zai zaL) (zab zaL) .none kV12 dc12 pm12 an12 cd12 ct12),sl12⟩) (c12:PySem.W.codeIn K cd12 "_law_is_number" = true) (k12:PySem.W.keepIn K (.ref f12)=true)
  (a13:PySem.W.nsIn K mainGlobals "_law_first_bad" = some (some (.ref f13))) (l13:K.lookup f13=some ⟨oc13,od13, .func (PySem.W.fnOf "_law_first_bad" "_law_first_bad" (zau zaK) (zai zaK) (zab zaK) .none kV13 dc13 pm13 an13 cd13 ct13),sl13⟩) (c13:PySem.W.codeIn K cd13 "_law_first_bad" = true) (k13:PySem.W.keepIn K (.ref f13)=true)
  (a14:PySem.W.nsIn K mainGlobals "_law_asked" = some (some (.ref f14))) (l14:K.lookup f14=some ⟨oc14,od14, .func (PySem.W.fnOf "_law_asked" "_law_asked" (zau zbI) (zai zbI) (zab zbI) .none kV14 dc14 pm14 an14 cd14 ct14),sl14⟩) (c14:PySem.W.codeIn K cd14 "_law_asked" = true) (k14:PySem.W.keepIn K (.ref f14)=true)
  (a15:PySem.W.nsIn K mainGlobals "law" = some (some (.ref f15))) (l15:K.lookup f15=some ⟨oc15,od15, .func (PySem.W.fnOf "law" "law" (zau zgU) (zai zgU) (zab zgU) .none kV15 dc15 pm15 an15 cd15 ct15),sl15⟩) (c15:PySem.W.codeIn K cd15 "law" = true) (k15:PySem.W.keepIn K (.ref f15)=true)
  (zds:PySem.W.nsIn K mainGlobals "ValueError" = some none)
  (znV:PySem.W.nsIn K mainGlobals "all" = some none)
  (zkf:PySem.W.nsIn K mainGlobals "bool" = some none)
  (zdR:PySem.W.nsIn K mainGlobals "enumerate" = some none)
  (znE:PySem.W.nsIn K mainGlobals "int" = some none)
  (zdj:PySem.W.nsIn K mainGlobals "isinstance" = some none)
  (znm:PySem.W.nsIn K mainGlobals "len" = some none)
  (zjU:PySem.W.nsIn K mainGlobals "list" = some none)
  (zmP:PySem.W.nsIn K mainGlobals "max" = some none)
  (znd:PySem.W.nsIn K mainGlobals "min" = some none)
  (zie:PySem.W.nsIn K mainGlobals "range" = some none)
  (znI:PySem.W.nsIn K mainGlobals "str" = some none)
  (zif:PySem.W.nsIn K mainGlobals "tuple" = some none)
  {zfV:Tok} (zcE:PySem.W.nsIn K mainGlobals "MOST_FIGURES" = some (some (.int 60 zfV)))
  {zaw:Addr} (zbB:PySem.W.nsIn K mainGlobals "RankError" = some (some (.ref zaw)))
  {zcm:Addr} (zey:PySem.W.nsIn K mainGlobals "NoRow" = some (some (.ref zcm)))
  {zbf:Addr} (zcL:PySem.W.nsIn K mainGlobals "NoPlace" = some (some (.ref zbf)))
  {zbh:Addr} (zcS:PySem.W.nsIn K mainGlobals "NoPouch" = some (some (.ref zbh)))
  {zbM:Addr} (zdF:PySem.W.nsIn K mainGlobals "NoSize" = some (some (.ref zbM)))
  {zco:Addr} (zeq:PySem.W.nsIn K mainGlobals "Wrong" = some (some (.ref zco)))
  {zbd:Addr} (zcQ:PySem.W.nsIn K mainGlobals "NoTimes" = some (some (.ref zbd)))
  {zbP:Addr} (zdG:PySem.W.nsIn K mainGlobals "Unlike" = some (some (.ref zbP)))
  {zas:Addr} (zaM:PySem.W.nsIn K mainGlobals "NoText" = some (some (.ref zas)))
  {nm_RankError q_RankError N_RankError bs_RankError bm_RankError hdct_RankError sn_RankError zgA ab_RankError col_RankError dd_RankError k0_RankError k1_RankError k2_RankError k3_RankError k5_RankError} (o_RankError:K.lookup zaw=some (excClassObj nm_RankError q_RankError zaw N_RankError bs_RankError bm_RankError hdct_RankError sn_RankError zgA ab_RankError col_RankError dd_RankError k0_RankError k1_RankError k2_RankError k3_RankError k5_RankError "ValueError.__new__"))
  (zdn:PySem.W.findIn K (.ref zaw) "__getattribute__" = some (some (.builtin "BaseException.__getattribute__"))) (zdh:PySem.W.findIn K (.ref zaw) "__getattr__" = some none) (zdy:PySem.W.findIn K (.ref zaw) "__class__" = some (some (.builtin "object.__class__"))) (zdC:PySem.W.subIn K (.ref zaw) (.type "BaseException")=some true) (zdm:PySem.W.subIn K (.ref zaw) (.type "object")=some true)
  {nm_NoRow q_NoRow N_NoRow bs_NoRow bm_NoRow hdct_NoRow sn_NoRow zk0 ab_NoRow col_NoRow dd_NoRow k0_NoRow k1_NoRow k2_NoRow k3_NoRow k5_NoRow} (o_NoRow:K.lookup zcm=some (excClassObj nm_NoRow q_NoRow zcm N_NoRow bs_NoRow bm_NoRow hdct_NoRow sn_NoRow zk0 ab_NoRow col_NoRow dd_NoRow k0_NoRow k1_NoRow k2_NoRow k3_NoRow k5_NoRow "ValueError.__new__"))
  (zgs:PySem.W.findIn K (.ref zcm) "__getattribute__" = some (some (.builtin "BaseException.__getattribute__"))) (zgS:PySem.W.findIn K (.ref zcm) "__getattr__" = some none) (zgN:PySem.W.findIn K (.ref zcm) "__class__" = some (some (.builtin "object.__class__"))) (zgF:PySem.W.subIn K (.ref zcm) (.type "BaseException")=some true) (zgO:PySem.W.subIn K (.ref zcm) (.type "object")=some true)
  {nm_NoPlace q_NoPlace N_NoPlace bs_NoPlace bm_NoPlace hdct_NoPlace sn_NoPlace zh1 ab_NoPlace col_NoPlace dd_NoPlace k0_NoPlace k1_NoPlace k2_NoPlace k3_NoPlace k5_NoPlace} (o_NoPlace:K.lookup zbf=some (excClassObj nm_NoPlace q_NoPlace zbf N_NoPlace bs_NoPlace bm_NoPlace hdct_NoPlace sn_NoPlace zh1 ab_NoPlace col_NoPlace dd_NoPlace k0_NoPlace k1_NoPlace k2_NoPlace k3_NoPlace k5_NoPlace "ValueError.__new__"))
  (zex:PySem.W.findIn K (.ref zbf) "__getattribute__" = some (some (.builtin "BaseException.__getattribute__"))) (zeE:PySem.W.findIn K (.ref zbf) "__getattr__" = some none) (zeF:PySem.W.findIn K (.ref zbf) "__class__" = some (some (.builtin "object.__class__"))) (zeA:PySem.W.subIn K (.ref zbf) (.type "BaseException")=some true) (zen:PySem.W.subIn K (.ref zbf) (.type "object")=some true)
  {nm_NoPouch q_NoPouch N_NoPouch bs_NoPouch bm_NoPouch hdct_NoPouch sn_NoPouch zh2 ab_NoPouch col_NoPouch dd_NoPouch k0_NoPouch k1_NoPouch k2_NoPouch k3_NoPouch k5_NoPouch} (o_NoPouch:K.lookup zbh=some (excClassObj nm_NoPouch q_NoPouch zbh N_NoPouch bs_NoPouch bm_NoPouch hdct_NoPouch sn_NoPouch zh2 ab_NoPouch col_NoPouch dd_NoPouch k0_NoPouch k1_NoPouch k2_NoPouch k3_NoPouch k5_NoPouch "ValueError.__new__"))
  (zee:PySem.W.findIn K (.ref zbh) "__getattribute__" = some (some (.builtin "BaseException.__getattribute__"))) (zep:PySem.W.findIn K (.ref zbh) "__getattr__" = some none) (zef:PySem.W.findIn K (.ref zbh) "__class__" = some (some (.builtin "object.__class__"))) (zeC:PySem.W.subIn K (.ref zbh) (.type "BaseException")=some true) (zes:PySem.W.subIn K (.ref zbh) (.type "object")=some true)
  {nm_NoSize q_NoSize N_NoSize bs_NoSize bm_NoSize hdct_NoSize sn_NoSize zjE ab_NoSize col_NoSize dd_NoSize k0_NoSize k1_NoSize k2_NoSize k3_NoSize k5_NoSize} (o_NoSize:K.lookup zbM=some (excClassObj nm_NoSize q_NoSize zbM N_NoSize bs_NoSize bm_NoSize hdct_NoSize sn_NoSize zjE ab_NoSize col_NoSize dd_NoSize k0_NoSize k1_NoSize k2_NoSize k3_NoSize k5_NoSize "ValueError.__new__"))
  (zfA:PySem.W.findIn K (.ref zbM) "__getattribute__" = some (some (.builtin "BaseException.__getattribute__"))) (zfd:PySem.W.findIn K (.ref zbM) "__getattr__" = some none) (zfv:PySem.W.findIn K (.ref zbM) "__class__" = some (some (.builtin "object.__class__"))) (zfB:PySem.W.subIn K (.ref zbM) (.type "BaseException")=some true) (zfe:PySem.W.subIn K (.ref zbM) (.type "object")=some true)
  {nm_Wrong q_Wrong N_Wrong bs_Wrong bm_Wrong hdct_Wrong sn_Wrong zkR ab_Wrong col_Wrong dd_Wrong k0_Wrong k1_Wrong k2_Wrong k3_Wrong k5_Wrong} (o_Wrong:K.lookup zco=some (excClassObj nm_Wrong q_Wrong zco N_Wrong bs_Wrong bm_Wrong hdct_Wrong sn_Wrong zkR ab_Wrong col_Wrong dd_Wrong k0_Wrong k1_Wrong k2_Wrong k3_Wrong k5_Wrong "ValueError.__new__"))
  (zgB:PySem.W.findIn K (.ref zco) "__getattribute__" = some (some (.builtin "BaseException.__getattribute__"))) (zgT:PySem.W.findIn K (.ref zco) "__getattr__" = some none) (zgx:PySem.W.findIn K (.ref zco) "__class__" = some (some (.builtin "object.__class__"))) (zgl:PySem.W.subIn K (.ref zco) (.type "BaseException")=some true) (zgD:PySem.W.subIn K (.ref zco) (.type "object")=some true)
  {nm_NoTimes q_NoTimes N_NoTimes bs_NoTimes bm_NoTimes hdct_NoTimes sn_NoTimes zil ab_NoTimes col_NoTimes dd_NoTimes k0_NoTimes k1_NoTimes k2_NoTimes k3_NoTimes k5_NoTimes} (o_NoTimes:K.lookup zbd=some (excClassObj nm_NoTimes q_NoTimes zbd N_NoTimes bs_NoTimes bm_NoTimes hdct_NoTimes sn_NoTimes zil ab_NoTimes col_NoTimes dd_NoTimes k0_NoTimes k1_NoTimes k2_NoTimes k3_NoTimes k5_NoTimes "ValueError.__new__"))
  (zeu:PySem.W.findIn K (.ref zbd) "__getattribute__" = some (some (.builtin "BaseException.__getattribute__"))) (zeI:PySem.W.findIn K (.ref zbd) "__getattr__" = some none) (zeh:PySem.W.findIn K (.ref zbd) "__class__" = some (some (.builtin "object.__class__"))) (zeB:PySem.W.subIn K (.ref zbd) (.type "BaseException")=some true) (zel:PySem.W.subIn K (.ref zbd) (.type "object")=some true)
  {nm_Unlike q_Unlike N_Unlike bs_Unlike bm_Unlike hdct_Unlike sn_Unlike zjo ab_Unlike col_Unlike dd_Unlike k0_Unlike k1_Unlike k2_Unlike k3_Unlike k5_Unlike} (o_Unlike:K.lookup zbP=some (excClassObj nm_Unlike q_Unlike zbP N_Unlike bs_Unlike bm_Unlike hdct_Unlike sn_Unlike zjo ab_Unlike col_Unlike dd_Unlike k0_Unlike k1_Unlike k2_Unlike k3_Unlike k5_Unlike "ValueError.__new__"))
  (zfn:PySem.W.findIn K (.ref zbP) "__getattribute__" = some (some (.builtin "BaseException.__getattribute__"))) (zfS:PySem.W.findIn K (.ref zbP) "__getattr__" = some none) (ze8:PySem.W.findIn K (.ref zbP) "__class__" = some (some (.builtin "object.__class__"))) (zfk:PySem.W.subIn K (.ref zbP) (.type "BaseException")=some true) (zfO:PySem.W.subIn K (.ref zbP) (.type "object")=some true)
  {nm_NoText q_NoText N_NoText bs_NoText bm_NoText hdct_NoText sn_NoText zju ab_NoText col_NoText dd_NoText k0_NoText k1_NoText k2_NoText k3_NoText k5_NoText} (o_NoText:K.lookup zas=some (excClassObj nm_NoText q_NoText zas N_NoText bs_NoText bm_NoText hdct_NoText sn_NoText zju ab_NoText col_NoText dd_NoText k0_NoText k1_NoText k2_NoText k3_NoText k5_NoText "ValueError.__new__"))
  (zed:PySem.W.findIn K (.ref zas) "__getattribute__" = some (some (.builtin "BaseException.__getattribute__"))) (zeb:PySem.W.findIn K (.ref zas) "__getattr__" = some none) (ze9:PySem.W.findIn K (.ref zas) "__class__" = some (some (.builtin "object.__class__"))) (zd5:PySem.W.subIn K (.ref zas) (.type "BaseException")=some true) (zfJ:PySem.W.subIn K (.ref zas) (.type "object")=some true)
  {zcO:Addr} {odi_NoText ani_NoText:Option Addr} {sli_NoText:Array (Option Value)} {oci_NoText kVi_NoText dci_NoText pmi_NoText cdi_NoText cti_NoText:Value} (fd_NoText:PySem.W.findIn K (.ref zas) "__init__" = some (some (.ref zcO))) (zfc:K.lookup zcO=some ⟨oci_NoText,odi_NoText, .func (PySem.W.fnOf "__init__" "NoText.__init__" (zau zcT) (zai zcT) (zab zcT) .none kVi_NoText dci_NoText pmi_NoText ani_NoText cdi_NoText cti_NoText),sli_NoText⟩) (zfN:PySem.W.codeIn K cdi_NoText "NoText.__init__" = true) (zfm:PySem.W.keepIn K (.ref zcO)=true)
  (zfa:PySem.W.findIn K (.ref zas) "__setattr__" = some (some (.builtin "object.__setattr__"))) (zd4:PySem.W.findIn K (.ref zas) "row" = some none) (zfo:zku K zas zcO=true) (zfH:PySem.W.typeIn K (.ref zcO)=some (.type "function")) (zfy:(PySem.W.clsIn K zas).any (·.hasDict)=true)
  (rd_b:PySem.W.readsIn K zaw (.type "type")=true) (fc_b:PySem.W.findCls K (.ref zaw) (.type "type") "__init__" = some (.val (.builtin "ValueError.__init__"))) (sg_b:PySem.W.specialIn K (.ref zaw) "__getattribute__" = some (some (.builtin "type.__getattribute__")))
  (zft:PySem.W.subIn K (.ref zas) (.type "ValueError")=some true)
  (zbr:PySem.W.subIn K (.ref zas) (.ref zaw)=some true)
  (zcf:PySem.W.subIn K (.ref zas) (.ref zcm)=some false)
  (zbN:PySem.W.subIn K (.ref zas) (.ref zbf)=some false)
  (zbK:PySem.W.subIn K (.ref zas) (.ref zbh)=some false)
  (zbY:PySem.W.subIn K (.ref zas) (.ref zbM)=some false)
  (zcc:PySem.W.subIn K (.ref zas) (.ref zco)=some false)
  (zbQ:PySem.W.subIn K (.ref zas) (.ref zbd)=some false)
  (zb4:PySem.W.subIn K (.ref zas) (.ref zbP)=some false)
  (zb5:PySem.W.subIn K (.ref zas) (.ref zas)=some true)
  : ∃ fd:FuncData,(∀ (s:Shared) (v:Value),BindsTo s fd ⟨[v],[]⟩ [("_law_script",v)])∧∀ base:Heap,K.In base→base.Ns mainGlobals mg→FnOk l.prog w K mg base CX0 6 fa fd ["_law_script"] (zlJ K):=by
 have e:=hfa.symm.trans (PySem.W.mg_of X G a15)
 cases e
 have zgW:=PySem.W.mg_none_of X G zds
 have zqE:=PySem.W.mg_none_of X G znV
 have y_bool:=PySem.W.mg_none_of X G zkf
 have zib:=PySem.W.mg_none_of X G zdR
 have zqP:=PySem.W.mg_none_of X G znE
 have zhz:=PySem.W.mg_none_of X G zdj
 have zqR:=PySem.W.mg_none_of X G znm
 have zo3:=PySem.W.mg_none_of X G zjU
 have zqq:=PySem.W.mg_none_of X G zmP
 have zqn:=PySem.W.mg_none_of X G znd
 have zm8:=PySem.W.mg_none_of X G zie
 have zqD:=PySem.W.mg_none_of X G znI
 have zn7:=PySem.W.mg_none_of X G zif
 have B:Blt mg:=⟨zgW,zqE,y_bool,zib,zqP,zhz,zqR,zo3,zqq,zqn,zm8,zqD,zn7⟩
 have zcJ:∃ t,mg "MOST_FIGURES" = some (.int 60 t):=⟨_,PySem.W.mg_of X G zcE⟩
 have zeJ:XC K zaw:=⟨⟨_,_,_,_,_,_,_,_,_,_,_,_,_,_,_,_,o_RankError⟩,zdn,zdh,zdy,zdC,zdm⟩
 have C_RankError:ClsN K mg "RankError":=⟨zaw,zeJ,PySem.W.mg_of X G zbB,zbB⟩
 have zjj:XC K zcm:=⟨⟨_,_,_,_,_,_,_,_,_,_,_,_,_,_,_,_,o_NoRow⟩,zgs,zgS,zgN,zgF,zgO⟩
 have C_NoRow:ClsN K mg "NoRow":=⟨zcm,zjj,PySem.W.mg_of X G zey,zey⟩
 have zgh:XC K zbf:=⟨⟨_,_,_,_,_,_,_,_,_,_,_,_,_,_,_,_,o_NoPlace⟩,zex,zeE,zeF,zeA,zen⟩
 have C_NoPlace:ClsN K mg "NoPlace":=⟨zbf,zgh,PySem.W.mg_of X G zcL,zcL⟩
 have zf7:XC K zbh:=⟨⟨_,_,_,_,_,_,_,_,_,_,_,_,_,_,_,_,o_NoPouch⟩,zee,zep,zef,zeC,zes⟩
 have C_NoPouch:ClsN K mg "NoPouch":=⟨zbh,zf7,PySem.W.mg_of X G zcS,zcS⟩
 have zhC:XC K zbM:=⟨⟨_,_,_,_,_,_,_,_,_,_,_,_,_,_,_,_,o_NoSize⟩,zfA,zfd,zfv,zfB,zfe⟩
 have C_NoSize:ClsN K mg "NoSize":=⟨zbM,zhC,PySem.W.mg_of X G zdF,zdF⟩
 have ziL:XC K zco:=⟨⟨_,_,_,_,_,_,_,_,_,_,_,_,_,_,_,_,o_Wrong⟩,zgB,zgT,zgx,zgl,zgD⟩
 have C_Wrong:ClsN K mg "Wrong":=⟨zco,ziL,PySem.W.mg_of X G zeq,zeq⟩
 have zf6:XC K zbd:=⟨⟨_,_,_,_,_,_,_,_,_,_,_,_,_,_,_,_,o_NoTimes⟩,zeu,zeI,zeh,zeB,zel⟩
 have C_NoTimes:ClsN K mg "NoTimes":=⟨zbd,zf6,PySem.W.mg_of X G zcQ,zcQ⟩
 have zhR:XC K zbP:=⟨⟨_,_,_,_,_,_,_,_,_,_,_,_,_,_,_,_,o_Unlike⟩,zfn,zfS,ze8,zfk,zfO⟩
 have C_Unlike:ClsN K mg "Unlike":=⟨zbP,zhR,PySem.W.mg_of X G zdG,zdG⟩
 have zg2:XC K zas:=⟨⟨_,_,_,_,_,_,_,_,_,_,_,_,_,_,_,_,o_NoText⟩,zed,zeb,ze9,zd5,zfJ⟩
 have C_NoText:ClsN K mg "NoText":=⟨zas,zg2,PySem.W.mg_of X G zaM,zaM⟩
 have T_all:XTab K ["NoText"] ["RankError", "NoRow", "NoPlace", "NoPouch", "NoSize", "Wrong", "NoTimes", "Unlike", "NoText"]:=⟨(zaV (zdD zbB zeJ) (zaV (zdD zey zjj) (zaV (zdD zcL zgh) (zaV (zdD zcS zf7) (zaV (zdD zdF zhC) (zaV (zdD zeq ziL) (zaV (zdD zcQ zf6) (zaV (zdD zdG zhR) (zaV (zdD zaM zg2) zhS))))))))),(zaV (zaV (zd6 zaM zbB zbr) (zaV (zd6 zaM zey zcf) (zaV (zd6 zaM zcL zbN) (zaV (zd6 zaM zcS zbK) (zaV (zd6 zaM zdF zbY) (zaV (zd6 zaM zeq zcc) (zaV (zd6 zaM zcQ zbQ) (zaV (zd6 zaM zdG zb4) (zaV (zd6 zaM zaM zb5) zhS))))))))) zhS),(zaV (zdD zaM zft) zhS),by decide⟩
 have zhj:=zkK (st:=zcT) zfc zfN zfm
 have O_NoText:OwnF K mg "NoText" "row":=⟨zas,zcO,zaw, "NoText.__init__",zcT,_, "RankError", "self", "row",⟨zfo,zfH,zfa,zd4⟩,⟨rd_b,fc_b,sg_b⟩,zhj,zka,zhj.binds (fun _ _ _ _ _ _ us hl=>us2 us hl (fun _ _=>rfl)),PySem.W.mg_of X G zbB,PySem.W.mg_of X G zaM,zaM⟩
 have F_row:XFld K ["NoText"] "row":=(zaV (zdD zaM ⟨zed,zeb,zd4,zd5,zfy⟩) zhS)
 have zps:HasFn K mg "read" zgd:=zaY X G a0 l0 c0 k0
 have zjL:HasFn K mg "read_row" zci:=zaY X G a1 l1 c1 k1
 have ziz:HasFn K mg "read_rows" zbe:=zaY X G a2 l2 c2 k2
 have zh6:HasFn K mg "is_number" zbz:=zaY X G a3 l3 c3 k3
 have zjK:HasFn K mg "_law_mix" zcj:=zaY X G a4 l4 c4 k4
 have zia:HasFn K mg "_law_cell" zbZ:=zaY X G a5 l5 c5 k5
 have zgG:HasFn K mg "_law_number" zbn:=zaY X G a6 l6 c6 k6
 have zhp:HasFn K mg "_law_alone" zbH:=zaY X G a7 l7 c7 k7
 have ziq:HasFn K mg "_law_rows" zbD:=zaY X G a8 l8 c8 k8
 have zfq:HasFn K mg "_law_bad_word" zaX:=zaY X G a9 l9 c9 k9
 have zfX:HasFn K mg "_law_bad_row" zba:=zaY X G a10 l10 c10 k10
 have zfU:HasFn K mg "_law_spoiled" za9:=zaY X G a11 l11 c11 k11
 have zeT:HasFn K mg "_law_is_number" zaL:=zaY X G a12 l12 c12 k12
 have zeU:HasFn K mg "_law_first_bad" zaK:=zaY X G a13 l13 c13 k13
 have zhX:HasFn K mg "_law_asked" zbI:=zaY X G a14 l14 c14 k14
 have FL:=zkK (st:=zgU) l15 c15 k15
 refine ⟨PySem.W.fnOf "law" "law" (zau zgU) (zai zgU) (zab zgU) .none kV15 dc15 pm15 an15 cd15 ct15,fun s v => .of_eq rfl,fun base _ _=>?_⟩
 have zdZ:=zh5 (P:=l.prog) (w:=w) (base:=base) B zh6 zcJ
 have zaF:=zjz (P:=l.prog) (w:=w) (base:=base) B zjK
 have zdB:∀ {p d:Addr} {oe:Obj} {e:Exc},Cau K oe d e→DefP l.prog w K mg base "_law_alone" 1 ["_law_error"] p oe (zbg p e):=fun he=>zhw B zhp C_NoPlace C_NoPouch C_NoRow C_NoSize C_NoTimes C_RankError C_Unlike C_Wrong T_all he
 have zcr:=zfG (P:=l.prog) (w:=w) (base:=base) B zfq
 have zcg:=zeQ (P:=l.prog) (w:=w) (base:=base) B zeT
 have zby:=zih (P:=l.prog) (w:=w) (base:=base) B zia zaF
 have zcZ:=zgP (P:=l.prog) (w:=w) (base:=base) B zgG zaF
 have zcH:=zfZ (P:=l.prog) (w:=w) (base:=base) B zfX zcr
 have zce:=zeV (P:=l.prog) (w:=w) (base:=base) B zeU zcg
 have zb1:=ziA (P:=l.prog) (w:=w) (base:=base) B ziz zdZ O_NoText
 have zdQ:=zid (P:=l.prog) (w:=w) (base:=base) B ziq zby zaF zcZ
 have zcG:=zf0 (P:=l.prog) (w:=w) (base:=base) B zfU zcH
 have zkl:=zo2 (P:=l.prog) (w:=w) (base:=base) B zps zb1
 have zeH:=zjy (P:=l.prog) (w:=w) (base:=base) B zjL zb1
 have zcC:=zhH (P:=l.prog) (w:=w) (base:=base) B zhX C_NoText zce zkl zeH zdB F_row T_all
 exact zp6 (zqy B FL zcC zby zaF zdQ zcG) M.zmU
theorem walk {l:PySem.W.OpenLaw} {q:Program} {loose:List Str} {XP:(Str→Option Value)→Heap→Prop} {YP:World→Heap→Prop} {d:DefRec} {K:Params→PySem.W.Frag} (hn:l.most=some 63) (hdf:d.params.defaults=[])
  (hY:∀ (w:World) (h:Heap),YP w h→(K w.params).In h)
  (F:∀ (w:World) (mg:Str→Option Value) (fa:Addr) (h:Heap),(K w.params).In h→h.Ns mainGlobals mg→mg d.name=some (.ref fa) →
   ∃ fd:FuncData,(∀ (s:Shared) (u:Value),BindsTo s fd ⟨[u],[]⟩ [("_law_script",u)])∧∀ base:Heap,(K w.params).In base→base.Ns mainGlobals mg→FnOk l.prog w (K w.params) mg base CX0 6 fa fd ["_law_script"] (zlJ (K w.params))) :
  PySem.W.WalkO q loose XP YP l.row.toRowW d [] (fun f vs=>PySem.call f vs) :=
 L2.zmT (n:=63) (k:=6) (x := "_law_script") (CX:=fun _=>CX0) (sp:=fun w=>zlJ (K w.params)) hn (by decide) hdf ⟨rfl,by decide,by decide⟩ hY F (fun _ _ a ns hl _ hS=>⟨a,ns,rfl,hS,hl,fun _=>rfl⟩) fun _ _ _ _ _ z=>z
end K78
open PySem PySem.W PyProof.Rows
namespace HD
open PySem PySem.W PyProof.Rows
def runT (B:String→Option Builtin) (p:Program) (w:World) (lo:Nat) (an:Option Value):Nat→SharedT→Thread→Option SharedT
 | 0,_,_=>none
 | m + 1,x,th=>bif through th then some x else bif stepOk lo an th then (stepT (denote B) p w x th).bind (fun y=>runT B p w lo an m y.1 y.2) else none
theorem zoK {B:String→Option Builtin} {p:Program} {w:World} {lo:Nat} {an:Option Value} (m:Nat) :
  ∀ (x y:SharedT) (th:Thread),runT B p w lo an m x th=some y→topRun B p w lo an m x.abs th=some y.abs:=by
 induction m with
 | zero=>intro x y th z;cases z
 | succ m ih =>
  intro x y th z
  unfold runT at z;unfold topRun
  cases a:through th <;> rw [a] at z
  ·cases b:stepOk lo an th <;> rw [b] at z
   ·cases z
   ·obtain ⟨u,hu,z'⟩:=Option.bind_eq_some_iff.mp (show (stepT (denote B) p w x th).bind _=some y from z)
    dsimp only
    rw [stepT_spec (s':=u.1) (t':=u.2) hu]
    exact ih _ _ _ z'
  ·cases z;rfl
def grow:List Obj→BT→Nat→BT
 | [],T,_=>T
 | o :: l,T,n=>grow l (T.ins n o) (n + 1)
noncomputable def boot (w:World) (os:OsState):SharedT:=⟨grow (boot_heap w.params).objs.toList .nil 0,11,(boot_heap w.params).life,#[],boot_drawn,boot_toks,os⟩
noncomputable def ends (p:Program) (N:Nat) (w:World) (os:OsState):Option SharedT:=runT treeTable p w 11 (some (.ref 6)) N (boot w os) (topStub p)
theorem zkG (w:World):((boot_heap w.params).isNs mainGlobals && (#[] : Array GenState).size == 0,(boot_heap w.params).objs.size,(boot_heap w.params).nsMap mainGlobals "__annotations__")=(true,11,some (Value.ref 6)):=by kernel_rfl
theorem boot_abs (w:World) (os:OsState):(boot w os).abs=⟨boot_heap w.params,#[],boot_drawn,boot_toks,os⟩:=by kernel_rfl
def fits (p:Program) (h:Heap) (y:SharedT):Bool:=staticsOk (importedModules p.main.body) h y.abs.heap && namesBound p y.abs.heap && gensDone y.abs && laidKept h y.abs.heap
theorem left {p q:Program} {loose:List Str} {Xt:Shared→Bool} {α:Type} {Yf:Shared→α} {Ya:World→α} {N:Nat} {g0:Bool}
  (plain:opening p=plainProg p.main.scope.names) (hN:Nat.ble 600 N=true) (fence:∀ s,fenceModules? p s=some s)
  (tests:∀ (w:World) (os:OsState),(ends p N w os).map (fits p (boot_heap w.params))=some true)
  (zny:∀ (w:World) (os:OsState),(ends p N w os).map (fun y=>openSeen q loose (importedModules p.main.body) Xt g0 y.abs)=some (openGood q loose))
  (hook:∀ (w:World) (os:OsState),(ends p N w os).map (fun y=>Yf y.abs)=some (Ya w)) :
  LeftO p q loose Xt Yf Ya N g0:=by
 intro w
 obtain ⟨⟨hp,ge,dr,tk,os⟩,ho,hq⟩:=Option.map_eq_some_iff.mp (boot_open plain hN fence w)
 simp only [Prod.mk.injEq] at hq
 obtain ⟨rfl,rfl,rfl,rfl⟩:=hq
 have bs:=zkG w
 simp only [Prod.mk.injEq] at bs
 obtain ⟨y,hy,a1⟩:=Option.map_eq_some_iff.mp (tests w os)
 have a2:=zny w os
 have a3:=hook w os
 rw [hy] at a2 a3
 have rr:=zoK _ _ _ _ hy
 rw [boot_abs] at rr
 have tt:topFrom treeTable p w N ⟨boot_heap w.params,#[],boot_drawn,boot_toks,os⟩ = some y.abs:=by
  unfold topFrom;dsimp only
  rw [bs.1,bs.2.1,bs.2.2,rr]
  show (match fits p (boot_heap w.params) y with | true=>some y.abs | false=>none)=some y.abs
  rw [a1]
 show ((fencedOpening treeTable p w N).bind (topFrom treeTable p w N)).map _=_
 rw [ho,Option.bind_some,tt,Option.map_some,Option.some.injEq,Prod.mk.injEq]
 exact ⟨Option.some.inj a2,Option.some.inj a3⟩
end HD
namespace HD
open PySem PySem.W PyProof.Rows
set_option maxRecDepth 100000
set_option maxHeartbeats 0
noncomputable def zoM (ds:List Nat) (l:List Stmt):List Stmt:=@List.rec Stmt (fun _=>Nat→List Stmt) (fun _=>[]) (fun s _ f i=>@Bool.rec (fun _=>List Stmt) (s :: f (Nat.succ i)) (f (Nat.succ i)) (ds.any (Nat.beq i))) l 0
noncomputable def kept:Program:={ PySem.Challenge.pw_rankpouch_k78_no_text with main:={ PySem.Challenge.pw_rankpouch_k78_no_text.main with body:=zoM [0,10,16] PySem.Challenge.pw_rankpouch_k78_no_text.main.body } }
noncomputable def seenX (s:Shared):Bool:=xlAt kept [] s && recOk (RowW.records (OpenRow.toRowW (OpenLaw.row PySem.Challenge.rw_rankpouch_k78_no_text))) s
theorem said:OpenLaw.wellSaid PySem.Challenge.rw_rankpouch_k78_no_text=true:=by kernel_rfl
theorem plain:opening PySem.Challenge.pw_rankpouch_k78_no_text=plainProg PySem.Challenge.pw_rankpouch_k78_no_text.main.scope.names:=by kernel_rfl
theorem fence (s:Shared):fenceModules? PySem.Challenge.pw_rankpouch_k78_no_text s=some s:=by kernel_rfl
theorem tests (w:World) (os:OsState):(ends PySem.Challenge.pw_rankpouch_k78_no_text 5196 w os).map (fits PySem.Challenge.pw_rankpouch_k78_no_text (boot_heap w.params))=some true:=by kernel_rfl
theorem zny (w:World) (os:OsState):(ends PySem.Challenge.pw_rankpouch_k78_no_text 5196 w os).map (fun y=>openSeen kept [] (importedModules PySem.Challenge.pw_rankpouch_k78_no_text.main.body) seenX true y.abs)=some (openGood kept []):=by kernel_rfl
end HD
open PySem PySem.W PyProof.Rows
local macro_rules
 | `(tactic| o_head $H)=>`(tactic| refine holds_open (q:=HD.kept) (loose:=[]) (N:=5196) (Xt:=HD.seenX)
   (XP:=XL HD.kept []) (Yf:=Hook.obs $H) (Ya:=Hook.val $H) (YP:=Hook.says $H)
   ?_ (Hook.of $H) (Hook.keeps $H) (fun s e=>xl_of s (Bool.and_eq_true_iff.mp e).1) XL.keeps
   (by rfl) (by rfl) (by rfl) (fun s e=>recFacts_of (Bool.and_eq_true_iff.mp e).2)
   (by rfl) (by assumption) (by decide +kernel) ⟨rfl,rfl,rfl,rfl,rfl,by decide +kernel⟩ ?_ ?_)
set_option maxRecDepth 100000 in
set_option maxHeartbeats 0 in
theorem PySem.Challenge.cw_rankpouch_k78_no_text_holds : PySem.Challenge.rw_rankpouch_k78_no_text.Holds := by
 w_on
 refine holds_law HD.said fun said=>?_
 k_head
 ·clear said
  refine HD.left HD.plain (by kernel_rfl) HD.fence HD.tests HD.zny ?_
  intro w os
  kernel_rfl
 ·clear said
  w_witness2
 clear said
 k_fill
 refine K78.walk (l:=PySem.Challenge.rw_rankpouch_k78_no_text) rfl rfl (fun w h Y=>PySem.W.kIn_of Y) ?F
 case F =>
  intro w mg fa h KX G hmg
  refine' K78.all_mk KX G hmg ?a0 ?l0 ?c0 ?k0 ?a1 ?l1 ?c1 ?k1 ?a2 ?l2 ?c2 ?k2 ?a3 ?l3 ?c3 ?k3 ?a4 ?l4 ?c4 ?k4 ?a5 ?l5 ?c5 ?k5 ?a6 ?l6 ?c6 ?k6 ?a7 ?l7 ?c7 ?k7 ?a8 ?l8 ?c8 ?k8 ?a9 ?l9 ?c9 ?k9 ?a10 ?l10 ?c10 ?k10 ?a11 ?l11 ?c11 ?k11 ?a12 ?l12 ?c12 ?k12 ?a13 ?l13 ?c13 ?k13 ?a14 ?l14 ?c14 ?k14 ?a15 ?l15 ?c15 ?k15 ?zds ?znV ?zkf ?zdR ?znE ?zdj ?znm ?zjU ?zmP ?znd ?zie ?znI ?zif ?zcE ?zbB ?zey ?zcL ?zcS ?zdF ?zeq ?zcQ ?zdG ?zaM ?o_RankError ?zdn ?zdh ?zdy ?zdC ?zdm ?o_NoRow ?zgs ?zgS ?zgN ?zgF ?zgO ?o_NoPlace ?zex ?zeE ?zeF ?zeA ?zen ?o_NoPouch ?zee ?zep ?zef ?zeC ?zes ?o_NoSize ?zfA ?zfd ?zfv ?zfB ?zfe ?o_Wrong ?zgB ?zgT ?zgx ?zgl ?zgD ?o_NoTimes ?zeu ?zeI ?zeh ?zeB ?zel ?o_Unlike ?zfn ?zfS ?ze8 ?zfk ?zfO ?o_NoText ?zed ?zeb ?ze9 ?zd5 ?zfJ ?fd_NoText ?zfc ?zfN ?zfm ?zfa ?zd4 ?zfo ?zfH ?zfy ?rd_b ?fc_b ?sg_b ?zft ?zbr ?zcf ?zbN ?zbK ?zbY ?zcc ?zbQ ?zb4 ?zb5
  (case a0=>k_is)
  (case l0=>k_is)
  (case c0=>k_is)
  (case k0=>k_is)
  (case a1=>k_is)
  (case l1=>k_is)
  (case c1=>k_is)
  (case k1=>k_is)
  (case a2=>k_is)
  (case l2=>k_is)
  (case c2=>k_is)
  (case k2=>k_is)
  (case a3=>k_is)
  (case l3=>k_is)
  (case c3=>k_is)
  (case k3=>k_is)
  (case a4=>k_is)
  (case l4=>k_is)
  (case c4=>k_is)
  (case k4=>k_is)
  (case a5=>k_is)
  (case l5=>k_is)
  (case c5=>k_is)
  (case k5=>k_is)
  (case a6=>k_is)
  (case l6=>k_is)
  (case c6=>k_is)
  (case k6=>k_is)
  (case a7=>k_is)
  (case l7=>k_is)
  (case c7=>k_is)
  (case k7=>k_is)
  (case a8=>k_is)
  (case l8=>k_is)
  (case c8=>k_is)
  (case k8=>k_is)
  (case a9=>k_is)
  (case l9=>k_is)
  (case c9=>k_is)
  (case k9=>k_is)
  (case a10=>k_is)
  (case l10=>k_is)
  (case c10=>k_is)
  (case k10=>k_is)
  (case a11=>k_is)
  (case l11=>k_is)
  (case c11=>k_is)
  (case k11=>k_is)
  (case a12=>k_is)
  (case l12=>k_is)
  (case c12=>k_is)
  (case k12=>k_is)
  (case a13=>k_is)
  (case l13=>k_is)
  (case c13=>k_is)
  (case k13=>k_is)
  (case a14=>k_is)
  (case l14=>k_is)
  (case c14=>k_is)
  (case k14=>k_is)
  (case a15=>k_is)
  (case l15=>k_is)
  (case c15=>k_is)
  (case k15=>k_is)
  (case zds=>k_is)
  (case znV=>k_is)
  (case zkf=>k_is)
  (case zdR=>k_is)
  (case znE=>k_is)
  (case zdj=>k_is)
  (case znm=>k_is)
  (case zjU=>k_is)
  (case zmP=>k_is)
  (case znd=>k_is)
  (case zie=>k_is)
  (case znI=>k_is)
  (case zif=>k_is)
  (case zcE=>k_is)
  (case zbB=>k_is)
  (case zey=>k_is)
  (case zcL=>k_is)
  (case zcS=>k_is)
  (case zdF=>k_is)
  (case zeq=>k_is)
  (case zcQ=>k_is)
  (case zdG=>k_is)
  (case zaM=>k_is)
  (case o_RankError=>k_is)
  (case zdn=>k_is)
  (case zdh=>k_is)
  (case zdy=>k_is)
  (case zdC=>k_is)
  (case zdm=>k_is)
  (case o_NoRow=>k_is)
  (case zgs=>k_is)
  (case zgS=>k_is)
  (case zgN=>k_is)
  (case zgF=>k_is)
  (case zgO=>k_is)
  (case o_NoPlace=>k_is)
  (case zex=>k_is)
  (case zeE=>k_is)
  (case zeF=>k_is)
  (case zeA=>k_is)
  (case zen=>k_is)
  (case o_NoPouch=>k_is)
  (case zee=>k_is)
  (case zep=>k_is)
  (case zef=>k_is)
  (case zeC=>k_is)
  (case zes=>k_is)
  (case o_NoSize=>k_is)
  (case zfA=>k_is)
  (case zfd=>k_is)
  (case zfv=>k_is)
  (case zfB=>k_is)
  (case zfe=>k_is)
  (case o_Wrong=>k_is)
  (case zgB=>k_is)
  (case zgT=>k_is)
  (case zgx=>k_is)
  (case zgl=>k_is)
  (case zgD=>k_is)
  (case o_NoTimes=>k_is)
  (case zeu=>k_is)
  (case zeI=>k_is)
  (case zeh=>k_is)
  (case zeB=>k_is)
  (case zel=>k_is)
  (case o_Unlike=>k_is)
  (case zfn=>k_is)
  (case zfS=>k_is)
  (case ze8=>k_is)
  (case zfk=>k_is)
  (case zfO=>k_is)
  (case o_NoText=>k_is)
  (case zed=>k_is)
  (case zeb=>k_is)
  (case ze9=>k_is)
  (case zd5=>k_is)
  (case zfJ=>k_is)
  (case fd_NoText=>k_is)
  (case zfc=>k_is)
  (case zfN=>k_is)
  (case zfm=>k_is)
  (case zfa=>k_is)
  (case zd4=>k_is)
  (case zfo=>kernel_rfl)
  (case zfH=>kernel_rfl)
  (case zfy=>kernel_rfl)
  (case rd_b=>kernel_rfl)
  (case fc_b=>kernel_rfl)
  (case sg_b=>kernel_rfl)
  (case zft=>k_is)
  (case zbr=>k_is)
  (case zcf=>k_is)
  (case zbN=>k_is)
  (case zbK=>k_is)
  (case zbY=>k_is)
  (case zcc=>k_is)
  (case zbQ=>k_is)
  (case zb4=>k_is)
  (case zb5=>k_is)
