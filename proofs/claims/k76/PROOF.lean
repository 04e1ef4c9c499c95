import PyProof.Rows.All
import KE.KDictList
import KE.KItemsList
import KE.KRevIter
import KE.KSortTup
import KE.KUnpack
import PyProof.Draws
import PyProof.ExcClass3
import PyProof.ExcInit
import PyProof.InstStoreFacts
import PyProof.MaxThree
import PyProof.P3In
import PyProof.Rows.FStr
import PyProof.ZipIter
import Wide.All
import OpenK.AllK
import Wide.FinOn
import Lean
import PyProof.EqAt
import PyProof.EqKinds
import PyProof.TupleCall
import PySem.Challenge.RW_rankpouch_k76_pouches_as_texts
set_option Elab.async false
set_option linter.all false
set_option maxRecDepth 100000
namespace L2
open PySem PySem.Spec PyProof.Rows
abbrev Key:=Sum Int Str
def zl4:Key→Value→Bool
 | .inl k,v=>Value.isInt k v
 | .inr x,v=>Value.isStrOf x v
def keyH (w:World):Key→Int
 | .inl k=>hashInt k
 | .inr x=>hashStr w x
theorem zaP:∀ {k:Key} {v:Value},zl4 k v=true→(∃ i t,k=Sum.inl i∧v=Value.int i t)∨(∃ x t,k=Sum.inr x∧v=Value.str x t)
 | .inl i,v,h=>by
  obtain ⟨t,e⟩:=Value.isInt_shape (k:=i) (v:=v) h
  exact .inl ⟨i,t,rfl,e⟩
 | .inr x,v,h=>by
  obtain ⟨t,e⟩:=Value.isStrOf_shape (x:=x) (v:=v) h
  exact .inr ⟨x,t,rfl,e⟩
theorem zne (a b:Int):decide ((Sum.inl a:Key)=Sum.inl b)=(a == b):=by
 by_cases e:a=b
 ·subst e;simp
 ·have h:¬ (Sum.inl a:Key)=Sum.inl b:=fun q=>e (Sum.inl.inj q)
  rw [decide_eq_false h]
  exact (beq_eq_false_iff_ne.mpr e).symm
theorem zmY (a b:Str):decide ((Sum.inr a:Key)=Sum.inr b)=decide (a=b):=by
 by_cases e:a=b
 ·subst e;simp
 ·have h:¬ (Sum.inr a:Key)=Sum.inr b:=fun q=>e (Sum.inr.inj q)
  rw [decide_eq_false h,decide_eq_false e]
theorem zl9 (a:Int) (b:Str):decide ((Sum.inl a:Key)=Sum.inr b)=false:=decide_eq_false (fun q=>nomatch q)
theorem zlM (a:Str) (b:Int):decide ((Sum.inr a:Key)=Sum.inl b)=false:=decide_eq_false (fun q=>nomatch q)
def ziE (prog:Program) (w:World):PySem.KeyKind prog w Key where
 is:=zl4
 hash:=keyH w
 inj:=fun v a b ha hb=>by
  rcases zaP ha with ⟨i,t,rfl,rfl⟩ | ⟨x,t,rfl,rfl⟩
  ·rcases zaP hb with ⟨j,u,rfl,e⟩ | ⟨y,u,rfl,e⟩
   ·injection e with e1 _;rw [e1]
   ·exact nomatch e
  ·rcases zaP hb with ⟨j,u,rfl,e⟩ | ⟨y,u,rfl,e⟩
   ·exact nomatch e
   ·injection e with e1 _;rw [e1]
 byValue:=fun k v h=>by
  rcases zaP h with ⟨i,t,rfl,rfl⟩ | ⟨x,t,rfl,rfl⟩ <;> rfl
 pyHash:=fun hv h=>by
  rcases zaP hv with ⟨i,t,rfl,rfl⟩ | ⟨x,t,rfl,rfl⟩
  ·exact wpAny_pyHash_int h
  ·exact wpAny_pyHash_str h
 eqBool:=fun hu hv h=>by
  rcases zaP hu with ⟨i,t,rfl,rfl⟩ | ⟨x,t,rfl,rfl⟩
  ·rcases zaP hv with ⟨j,u,rfl,rfl⟩ | ⟨y,u,rfl,rfl⟩
   ·rw [zne] at h;exact wpAny_eqBool_int h
   ·rw [zl9] at h;exact SeqAt.EqAt.int_str i t y u _ _ _ _ h
  ·rcases zaP hv with ⟨j,u,rfl,rfl⟩ | ⟨y,u,rfl,rfl⟩
   ·rw [zlM] at h;exact SeqAt.EqAt.str_int x t j u _ _ _ _ h
   ·rw [zmY] at h;exact wpAny_eqBool_str h
 «strs»:=fun k x t v h=>by
  rcases zaP h with ⟨i,u,rfl,e⟩ | ⟨y,u,rfl,e⟩
  ·exact nomatch e
  ·injection e with e1 _
   subst e1
   cases v <;> rfl
end L2
namespace L2
open PySem PySem.Spec PyProof.Rows
inductive V where
 | non | bl (b:Bool) | int (i:Int) | str (x:Str) | byt (b:Array UInt8) | flt (b:UInt64) | ref (a:Addr) | ty (n:String)
 deriving DecidableEq
def RelV:V→Value→Prop
 | .non,u=>u=Value.none
 | .bl b,u=>u=Value.bool b
 | .int i,u=>∃ t,u=Value.int i t
 | .str x,u=>∃ t,u=Value.str x t
 | .byt b,u=>∃ t,u=Value.bytes b t
 | .flt b,u=>∃ t,u=Value.float b t
 | .ref a,u=>u=Value.ref a
 | .ty n,u=>u=Value.type n
abbrev Vals:List V→List Value→Prop:=Paired RelV
theorem Vals.length {xs:List V} {us:List Value} (r:Vals xs us):xs.length=us.length:=Paired.length r
theorem Vals.get:∀ {xs:List V} {us:List Value} {i:Nat} {x:V},Vals xs us→xs[i]? = some x→∃ u,us[i]? = some u∧RelV x u
 | _,_,_,_, .nil,e=>by simp at e
 | _,_,0,_, .cons r _,e=>by simp at e;subst e;exact ⟨_,rfl,r⟩
 | _,_,i + 1,x, .cons _ t,e=>by
  obtain ⟨u,h1,h2⟩:=Vals.get (i:=i) (x:=x) t (by simpa using e)
  exact ⟨u,by simpa using h1,h2⟩
theorem Vals.set {x:V} {u:Value} (r:RelV x u):∀ {xs:List V} {us:List Value} (i:Nat),Vals xs us→Vals (xs.set i x) (us.set i u)
 | _,_,_, .nil => .nil
 | _,_,0, .cons _ t => .cons r t
 | _,_,i + 1, .cons q t => .cons q (Vals.set r i t)
theorem Vals.append:∀ {xs ys:List V} {us ws:List Value},Vals xs us→Vals ys ws→Vals (xs ++ ys) (us ++ ws)
 | _,_,_,_, .nil,s=>s
 | _,_,_,_, .cons r t,s => .cons r (Vals.append t s)
theorem Vals.take:∀ {xs:List V} {us:List Value} (n:Nat),Vals xs us→Vals (xs.take n) (us.take n)
 | _,_,0,_ => .nil
 | _,_,_ + 1, .nil => .nil
 | _,_,n + 1, .cons r t => .cons r (Vals.take n t)
theorem Vals.drop:∀ {xs:List V} {us:List Value} (n:Nat),Vals xs us→Vals (xs.drop n) (us.drop n)
 | _,_,0,r=>r
 | _,_,_ + 1, .nil => .nil
 | _,_,n + 1, .cons _ t=>Vals.drop n t
def RelO:Option V→Option Value→Prop
 | some v,some u=>RelV v u
 | none,none=>True
 | _,_=>False
def KV {κ:Type}:List (κ × V)→List (κ × Value)→Prop:=Paired fun (p:κ × V) (q:κ × Value)=>p.1=q.1∧RelV p.2 q.2
def kV:Key→V
 | .inl i => .int i
 | .inr x => .str x
inductive HO where
 | lst (xs:List V)
 | tup (xs:List V)
 | dK (kvs:List (Key × V)) | dT (kvs:List (List Key × V))
 | set (S:Int→Bool) (n:Nat)
 | ins (C dx:Addr) (fs:List (Str × V))
 | own (x:Addr)
 | xd (fs:List (Str × V))
 | met (f x:Addr)
 | rng (lo hi:Int)
 | frz (o:Obj) (u:HO)
 | tbl (ps:Array Value)
 | ext (φ:Heap→Prop)
abbrev Hp:=Addr→Option HO
def upd (H:Hp) (a:Addr) (o:HO):Hp:=fun b=>if b=a then some o else H b
theorem zas {H:Hp} {a:Addr} {o:HO}:upd H a o a=some o:=by unfold upd;rw [if_pos rfl]
theorem zah {H:Hp} {a b:Addr} {o:HO} (h:b ≠ a):upd H a o b=H b:=by unfold upd;rw [if_neg h]
theorem zlL {H:Hp} {a b:Addr} {o u:HO} (h:H a=some o) (h':H b=some u) (d:o ≠ u):a ≠ b:=by
 intro e;subst e;rw [h] at h';exact d (Option.some.inj h')
theorem zan {H:Hp} {a b:Addr} {o:HO} (h:H a=some o) (h':H b=none):a ≠ b:=by
 intro e;subst e;rw [h] at h';cases h'
section
variable (P:Program) (w:World)
def zbB (H:Hp) (h:Heap) (a:Addr):HO→Prop
 | .lst xs=>xs.length ≤ sizeLine∧∃ (its:List Value) (n:Nat),Vals xs its∧h.get? a=some { cls := .type "list",data := .seq its.toArray n }
 | .tup xs=>xs.length ≤ sizeLine∧∃ its:List Value,Vals xs its∧IsTup h a its.toArray
 | .dK kvs=>kvs.length ≤ sizeLine∧(a == sysModules)=false∧∃ vs,KV kvs vs∧h.DictOf (ziE P w) a vs
 | .dT kvs=>kvs.length ≤ sizeLine∧(a == sysModules)=false∧∃ xs:List (List Key × Addr × Value),
   Paired (fun (p:List Key × V) (q:List Key × Addr × Value)=>p.1=q.1∧H q.2.1=some (.tup (p.1.map kV))∧RelV p.2 q.2.2) kvs xs ∧
   ∃ o es ep,h.get? a=some o∧o.ExactDict∧o.data = .dict es ep∧es.toList=xs.map (entryOfKey (tupleKind (ziE P w)))∧(xs.map (·.1)).Nodup
 | .set S n=>h.SetOf (intKind P w) a S n
 | .ins C dx fs=>H dx=some (.own a)∧fs.length ≤ 1000∧dx ≠ a∧h.get? a=some (PySem.W.instObj C dx) ∧
   ∃ mA,h.Ns1 dx mA∧(∀ f,RelO (fs.lookup f) (mA f))∧PySem.Within mA (fs.map (·.1))
 | .own _=>∃ o,h.get? a=some o
 | .xd fs=>∃ mA,h.Ns1 a mA∧∀ f,RelO (fs.lookup f) (mA f)
 | .rng lo hi=>∃ t u v,h.get? a=some { cls := .type "range",data := .fields #[.int lo t, .int hi u, .int 1 v] }
 | .frz o u=>h.get? a=some o∧zbB H h a u
 | .tbl ps=>h.get? a=some { cls := .none,data := .fields ps }
 | .met f x=>h.get? a=some (PySem.W.methodObj (.ref f) (.ref x))
 | .ext φ=>φ h∧(∃ o,h.get? a=some o)∧∀ h1 h2:Heap,φ h1→(∀ o,h1.get? a=some o→h2.get? a=some o)→φ h2
def HOk (H:Hp) (h:Heap):Prop:=∀ a o,H a=some o→zbB P w H h a o
end
section
variable {P:Program} {w:World} {H H':Hp} {h h':Heap} {a:Addr} {o:HO}
theorem zbB.lt (x:zbB P w H h a o):a < h.objs.size:=by
 cases o with
 | lst xs=>obtain ⟨_,_,_,_,e⟩:=x;exact Heap.lt_size e
 | tup xs=>obtain ⟨_,_,_,p⟩:=x;exact p.lt
 | dK kvs=>obtain ⟨_,_,_,_,o,_,_,e,_⟩:=x;exact Heap.lt_size e
 | dT kvs=>obtain ⟨_,_,_,_,o,_,_,e,_⟩:=x;exact Heap.lt_size e
 | set S n=>obtain ⟨o,_,_,_,e,_⟩:=x;exact Heap.lt_size e
 | ins C dx fs=>obtain ⟨_,_,_,e,_⟩:=x;exact Heap.lt_size e
 | own y=>obtain ⟨_,e⟩:=x;exact Heap.lt_size e
 | xd fs=>obtain ⟨_,⟨_,_,_,e,_⟩,_⟩:=x;exact Heap.lt_size e
 | rng lo hi=>obtain ⟨_,_,_,e⟩:=x;exact Heap.lt_size e
 | frz ob u=>obtain ⟨e,_⟩:=x;exact Heap.lt_size e
 | tbl ps=>exact Heap.lt_size (show h.get? a=some _ from x)
 | met f y=>exact Heap.lt_size (show h.get? a=some _ from x)
 | ext φ=>obtain ⟨_,⟨_,e⟩,_⟩:=x;exact Heap.lt_size e
theorem Paired.mapP {α β:Type} {F G:α→β→Prop}:∀ {l₁:List α} {l₂:List β},Paired F l₁ l₂→(∀ a b,F a b→G a b)→Paired G l₁ l₂
 | _,_, .nil,_ => .nil
 | _,_, .cons r t,f => .cons (f _ _ r) (Paired.mapP t f)
theorem zbB.stay (x:zbB P w H h a o) (k:∀ b u,(b=a∨H b=some (.own a))→h.get? b=some u→h'.get? b=some u)
  (ho:∀ b,H b=some (.own a)→H' b=some (.own a)) (ht:∀ b xs,H b=some (.tup xs)→H' b=some (.tup xs)):zbB P w H' h' a o:=by
 induction o with
 | lst xs=>obtain ⟨z,its,n,r,e⟩:=x;exact ⟨z,its,n,r,k _ _ (.inl rfl) e⟩
 | tup xs=>obtain ⟨z,its,r,ob,e,c⟩:=x;exact ⟨z,its,r,ob,k _ _ (.inl rfl) e,c⟩
 | dK kvs=>obtain ⟨z,y,vs,r,ob,es,ep,e,c⟩:=x;exact ⟨z,y,vs,r,ob,es,ep,k _ _ (.inl rfl) e,c⟩
 | dT kvs =>
  obtain ⟨z,y,xs,r,ob,es,ep,e,c⟩:=x
  exact ⟨z,y,xs,Paired.mapP r fun p q z=>⟨z.1,ht _ _ z.2.1,z.2.2⟩,ob,es,ep,k _ _ (.inl rfl) e,c⟩
 | set S n=>obtain ⟨ob,es,ep,t,e,c⟩:=x;exact ⟨ob,es,ep,t,k _ _ (.inl rfl) e,c⟩
 | ins C dx fs =>
  obtain ⟨d,z,ne,e,mA,⟨od,es,ep,e2,c⟩,r⟩:=x
  exact ⟨ho _ d,z,ne,k _ _ (.inl rfl) e,mA,⟨od,es,ep,k _ _ (.inr d) e2,c⟩,r⟩
 | own y=>obtain ⟨ob,e⟩:=x;exact ⟨ob,k _ _ (.inl rfl) e⟩
 | xd fs=>obtain ⟨mA,⟨od,es,ep,e,c⟩,r⟩:=x;exact ⟨mA,⟨od,es,ep,k _ _ (.inl rfl) e,c⟩,r⟩
 | rng lo hi=>obtain ⟨t,u,v,e⟩:=x;exact ⟨t,u,v,k _ _ (.inl rfl) e⟩
 | frz ob u ih=>obtain ⟨e,q⟩:=x;exact ⟨k _ _ (.inl rfl) e,ih q⟩
 | tbl ps =>
  have e:h.get? a=some { cls := .none,data := .fields ps }:=x
  show h'.get? a=some { cls := .none,data := .fields ps }
  exact k a _ (.inl rfl) e
 | met f y =>
  have e:h.get? a=some (PySem.W.methodObj (.ref f) (.ref y)):=x
  show h'.get? a=some (PySem.W.methodObj (.ref f) (.ref y))
  exact k a _ (.inl rfl) e
 | ext φ=>obtain ⟨p,⟨o,e⟩,st⟩:=x;exact ⟨st _ _ p fun o q=>k _ _ (.inl rfl) q,⟨o,k _ _ (.inl rfl) e⟩,st⟩
theorem HOk.lt (x:HOk P w H h) (e:H a=some o):a < h.objs.size:=(x a o e).lt
theorem HOk.fresh (x:HOk P w H h) (e:h.objs.size ≤ a):H a=none:=by
 cases q:H a with
 | none=>rfl
 | some u=>exact absurd (Nat.lt_of_lt_of_le (x.lt q) e) (Nat.lt_irrefl _)
theorem HOk.kept (x:HOk P w H h) (k:∀ b u,h.get? b=some u→h'.get? b=some u):HOk P w H h':=fun a o e =>
 (x a o e).stay (fun b u _ q=>k b u q) (fun _ q=>q) fun _ _ q=>q
theorem HOk.laid (x:HOk P w H h) (k:∀ b u,h.get? b=some u→h'.get? b=some u) (hp:h.objs.size ≤ a) (new:zbB P w (upd H a o) h' a o):HOk P w (upd H a o) h':=fun b u e=>by
 have hn:=x.fresh hp
 by_cases hb:b=a
 ·subst hb;rw [zas] at e;cases e;exact new
 ·rw [zah hb] at e
  exact (x b u e).stay (fun c v _ q=>k c v q) (fun c q=>by rw [zah (zan q hn)];exact q) fun c xs q=>by rw [zah (zan q hn)];exact q
end
def Rd (H:Hp) (a:Addr) (u:HO):Prop:=H a=some u∨∃ o,H a=some (.frz o u)
theorem Rd.of {H:Hp} {a:Addr} {u:HO} (h:H a=some u):Rd H a u := .inl h
theorem Rd.ok {P:Program} {w:World} {H:Hp} {h:Heap} {a:Addr} {u:HO} (r:Rd H a u) (x:HOk P w H h):zbB P w H h a u:=by
 rcases r with r | ⟨o,r⟩
 ·exact x a u r
 ·obtain ⟨_,q⟩:=x a _ r
  exact q
def Mut:Option HO→Prop
 | some (.lst _)=>True
 | some (.dK _)=>True
 | some (.dT _)=>True
 | some (.set _ _)=>True
 | some (.ins _ _ _)=>True
 | some (.ext _)=>True
 | _=>False
section
variable {P:Program} {w:World} {H:Hp} {h h':Heap} {x e:Addr} {o':HO}
theorem HOk.write (ok:HOk P w H h) (mu:Mut (H x)) (he:e=x∨H e=some (.own x)) (k:∀ b u,b ≠ e→h.get? b=some u→h'.get? b=some u) (heo:∃ u,h'.get? e=some u)
  (new:zbB P w (upd H x o') h' x o'):HOk P w (upd H x o') h':=fun b u q=>by
 have nown:∀ c y,H c=some (.own y)→c ≠ x:=fun c y r z=>by subst z;rw [r] at mu;exact mu
 have ntup:∀ c xs,H c=some (.tup xs)→c ≠ x:=fun c xs r z=>by subst z;rw [r] at mu;exact mu
 by_cases hb:b=x
 ·subst hb;rw [zas] at q;cases q;exact new
 ·rw [zah hb] at q
  by_cases hbe:b=e
  ·have q':H b=some (.own x):=by
    rcases he with z | z
    ·exact absurd (hbe.trans z) hb
    ·rw [hbe];exact z
   rw [q] at q';cases q'
   obtain ⟨v,hv⟩:=heo
   exact ⟨v,by rw [hbe];exact hv⟩
  ·refine (ok b u q).stay (fun c v hc r=>k c v ?_ r) (fun c r=>by rw [zah (nown c b r)];exact r) fun c xs r=>by rw [zah (ntup c xs r)];exact r
   rcases hc with rfl | hc
   ·exact hbe
   ·rintro rfl
    rcases he with z | z
    ·exact nown c b hc z
    ·rw [hc] at z;cases z;exact hb rfl
end
structure Un (fs ex:List Addr) (H H':Hp) (h h':Heap):Prop where
 keep:∀ b o,h.get? b=some o→H b=none→b ∉ fs→b ∉ ex→h'.get? b=some o
 slot:∀ b o,h.get? b=some o→H b=none→b ∈ fs→b ∉ ex→∃ sl,h'.get? b=some { o with slots:=sl }
 free:∀ b o,h.get? b=some o→H b=none→b ∉ ex→H' b=none
 there:∀ b o,h.get? b=some o→b ∉ ex→∃ o',h'.get? b=some o'
 tups:∀ b xs,H b=some (.tup xs)→H' b=some (.tup xs)
 frzs:∀ b o u,H b=some (.frz o u)→H' b=some (.frz o u)
 tbls:∀ b ps,H b=some (.tbl ps)→∃ more,H' b=some (.tbl (ps ++ more))
section
variable {fs fs' ex ex':List Addr} {H H1 H2:Hp} {h h1 h2 h':Heap} {a x e:Addr} {o:HO}
theorem Un.any (u:Un fs ex H H1 h h1) {b:Addr} {ob:Obj} (q:h.get? b=some ob) (n:H b=none) (hx:b ∉ ex):∃ sl,h1.get? b=some { ob with slots:=sl }:=by
 by_cases hb:b ∈ fs
 ·exact u.slot b ob q n hb hx
 ·exact ⟨ob.slots,u.keep b ob q n hb hx⟩
theorem Un.trans (a:Un fs ex H H1 h h1) (b:Un fs ex H1 H2 h1 h2):Un fs ex H H2 h h2 where
 keep:=fun c ob q n hc hx=>b.keep c ob (a.keep c ob q n hc hx) (a.free c ob q n hx) hc hx
 slot:=fun c ob q n hc hx=>by
  obtain ⟨sl,e1⟩:=a.slot c ob q n hc hx
  obtain ⟨sl',e2⟩:=b.slot c _ e1 (a.free c ob q n hx) hc hx
  exact ⟨sl',e2⟩
 free:=fun c ob q n hx=>by
  obtain ⟨o',e1⟩:=a.there c ob q hx
  exact b.free c o' e1 (a.free c ob q n hx) hx
 there:=fun c ob q hx=>by
  obtain ⟨o',e1⟩:=a.there c ob q hx
  exact b.there c o' e1 hx
 tups:=fun c xs q=>b.tups c xs (a.tups c xs q)
 frzs:=fun c ob xs q=>b.frzs c ob xs (a.frzs c ob xs q)
 tbls:=fun c ps q=>by
  obtain ⟨m1,e1⟩:=a.tbls c ps q
  obtain ⟨m2,e2⟩:=b.tbls c _ e1
  exact ⟨m1 ++ m2,by rw [e2,Array.append_assoc]⟩
theorem Un.kept (k:∀ b u,h.get? b=some u→h'.get? b=some u):Un fs ex H H h h' :=
 ⟨fun b ob q _ _ _=>k b ob q,fun b ob q _ _ _=>⟨ob.slots,k b ob q⟩,fun _ _ _ n _=>n,fun b ob q _=>⟨ob,k b ob q⟩,fun _ _ q=>q,fun _ _ _ q=>q,fun _ ps q=>⟨#[],by rw [q];simp⟩⟩
theorem Un.refl:Un fs ex H H h h:=Un.kept fun _ _ q=>q
theorem Un.laid (k:∀ b u,h.get? b=some u→h'.get? b=some u) (hp:h.objs.size ≤ a) (hn:H a=none):Un fs ex H (upd H a o) h h' where
 keep:=fun b u q _ _ _=>k b u q
 slot:=fun b u q _ _ _=>⟨u.slots,k b u q⟩
 free:=fun b u q n _=>by rw [zah (Nat.ne_of_lt (Nat.lt_of_lt_of_le (Heap.lt_size q) hp))];exact n
 there:=fun b u q _=>⟨u,k b u q⟩
 tups:=fun b xs q=>by rw [zah (zan q hn)];exact q
 frzs:=fun b u xs q=>by rw [zah (zan q hn)];exact q
 tbls:=fun b ps q=>⟨#[],by rw [zah (zan q hn),q];simp⟩
theorem Un.write (mu:Mut (H x)) (he:e=x∨H e=some (.own x)) (k:∀ b u,b ≠ e→h.get? b=some u→h'.get? b=some u) (heo:∃ u,h'.get? e=some u):Un fs ex H (upd H x o) h h':=by
 have hx:∀ b,H b=none→b ≠ x:=fun b n z=>by subst z;rw [n] at mu;exact mu
 have hb:∀ b,H b=none→b ≠ e:=fun b n z=>by
  subst z
  rcases he with r | r
  ·exact hx b n r
  ·rw [n] at r;cases r
 have hm:∀ b u,H b=some u→¬ Mut (some u)→b ≠ x:=fun b u q nm z=>by subst z;rw [q] at mu;exact nm mu
 refine ⟨fun b u q n _ _=>k b u (hb b n) q,fun b u q n _ _=>⟨u.slots,k b u (hb b n) q⟩,fun b u q n _=>by rw [zah (hx b n)];exact n,fun b u q _=>?_,
  fun b xs q=>by rw [zah (hm b _ q fun z=>z)];exact q,fun b u xs q=>by rw [zah (hm b _ q fun z=>z)];exact q,fun b ps q=>⟨#[],by rw [zah (hm b _ q fun z=>z),q];simp⟩⟩
 by_cases hbe:b=e
 ·subst hbe;exact heo
 ·exact ⟨u,k b u hbe q⟩
theorem Un.mono (u:Un fs ex H H1 h h1) (hs:∀ b ∈ fs,b ∈ fs') (hx:∀ b ∈ ex,b ∈ ex'):Un fs' ex' H H1 h h1 :=
 ⟨fun b ob q n hb he=>u.keep b ob q n (fun z=>hb (hs b z)) fun z=>he (hx b z),fun _ _ q n _ he=>u.any q n fun z=>he (hx _ z),fun b ob q n he=>u.free b ob q n fun z=>he (hx b z),fun b ob q he=>u.there b ob q fun z=>he (hx b z),u.tups,u.frzs,u.tbls⟩
end
def trk (h:Heap) (H:Hp):List Addr:=(List.range h.objs.size).filter fun a=>(H a).isSome
def hidT (h:Heap) (H:Hp):Heap:=PySem.W.hideAll h (trk h H)
theorem zif (h:Heap) (H:Hp):(hidT h H).objs.size=h.objs.size:=PySem.W.hideAll_size _ _
theorem zjq {h:Heap} {H:Hp} {b:Addr} {o:Obj} (e:h.get? b=some o) (n:H b=none):(hidT h H).get? b=some o :=
 PySem.W.hideAll_get _ e fun hm=>by
  have q:(H b).isSome=true:=(List.mem_filter.mp hm).2
  rw [n] at q;simp at q
theorem zko {h:Heap} {H:Hp} {b:Addr} {o:Obj} (e:(hidT h H).get? b=some o):h.get? b=some o∧H b=none:=by
 have e':h.get? b=some o:=PySem.W.of_hideAll (trk h H) e
 refine ⟨e',?_⟩
 cases q:H b with
 | none=>rfl
 | some x =>
  have hm:b ∈ trk h H:=List.mem_filter.mpr ⟨List.mem_range.mpr (Heap.lt_size e'),by simp [q]⟩
  have z:(hidT h H).get? b=none:=PySem.W.hideAll_none (trk h H) hm
  rw [z] at e;cases e
def zdH (g h:Heap) (L:Addr):List (Addr × Obj):=(List.range h.objs.size).filterMap fun a=>if a=L∨(g.get? a).isSome=true then none else (h.get? a).map fun o=>(a,o)
theorem zfS {g h:Heap} {L a:Addr} {o:Obj} (h1:a ≠ L) (h2:g.get? a=none) (h3:h.get? a=some o):(a,o) ∈ zdH g h L :=
 List.mem_filterMap.mpr ⟨a,List.mem_range.mpr (Heap.lt_size h3),by simp [h1,h2,h3]⟩
theorem zd2 {g h:Heap} {L:Addr} {p:Addr × Obj} (hp:p ∈ zdH g h L):p.1 ≠ L∧g.get? p.1=none∧h.get? p.1=some p.2:=by
 obtain ⟨b,_,e⟩:=List.mem_filterMap.mp hp
 split at e
 ·cases e
 ·rename_i hn
  cases q:h.get? b with
  | none=>rw [q] at e;simp at e
  | some u =>
   rw [q] at e
   simp only [Option.map_some,Option.some.injEq] at e
   subst e
   refine ⟨fun z=>hn (.inl z),?_,q⟩
   show g.get? b=none
   cases r:g.get? b with
   | none=>rfl
   | some v=>exact (hn (.inr (by simp [r]))).elim
def rest (g h:Heap) (L d:Addr):List (Addr × Obj):=(zdH g h L).filter fun p=>decide (p.1 ≠ d)
theorem zep {g h:Heap} {L:Addr}:News g L h (zdH g h L):=fun p hp=>let ⟨a,b,c⟩:=zd2 hp; ⟨c,a,b⟩
end L2
namespace L2
open PySem PySem.Spec PyProof.Rows
structure Mod (K:PySem.W.Frag) (mg:Str→Option Value) (base:Heap):Prop where
 kin:K.In base
 glob:base.Ns mainGlobals mg
 blt:∃ mb,base.Ns builtinsNs mb∧∀ x:Str,x ≠ "__name__"→mb x=bootBuiltins x
 nolimit:base.NoLimit
structure Cx where
 prog:Program
 w:World
 K:PySem.W.Frag
 mg:Str→Option Value
 base:Heap
 A:Around
 N:List Str
 s₀:Shared
 H₀:Hp
 env:Env
 outer:List Env
 stack:List Env
 ex:List Addr
 fn:Str→Bool
 calm:Bool
 pn:List (Addr × Obj)
 xe:Value→Shared→Prop
def frs (l:List Env):List Addr:=l.filterMap (·.frame)
abbrev Cx.fs (X:Cx):List Addr:=frs X.outer
def Vis (sc:Scope) (x:Str):Prop:=sc.names.lookup x=some .local∨sc.names.lookup x=some .cell∨sc.names.lookup x=some .free
def Loc (sc:Scope) (x:Str):Prop:=sc.names.lookup x=some .local∨sc.names.lookup x=some .cell
def Look (env:Env) (h:Heap) (m:Str→Option Value) (x:Str) (u:Value):Prop :=
 (env.kindOf x=some .local∧m x=some u)∨((env.kindOf x=some .cell∨env.kindOf x=some .free)∧∃ c,env.cells.lookup x=some c∧h.IsCell c (some u))
structure Cx.Ok (X:Cx):Prop where
 mod:Mod X.K X.mg X.base
 kind:X.env.scope.kind = .function
 glob:X.env.globals=mainGlobals
 blt:X.env.builtins=builtinsNs
 above:X.s₀.heap.objs.size ≤ X.env.locals
 inj:∀ x y c,X.env.cells.lookup x=some c→X.env.cells.lookup y=some c→x=y
 has:∀ x,(X.env.kindOf x=some .cell∨X.env.kindOf x=some .free)→∃ c,X.env.cells.lookup x=some c
 cab:∀ x c,X.fn x=true→X.env.cells.lookup x=some c→X.s₀.heap.objs.size ≤ c
 hd:X.calm=true→X.A.handled=none
 frames:X.A.frames=some X.stack
 stk:X.stack=X.outer∨(X.stack=X.env :: X.outer∧X.env.frame=some X.env.locals)
 exf:∀ b ∈ X.ex,b ≠ X.env.locals∧∀ x c,X.env.cells.lookup x=some c→c ≠ b
 bs:∀ b o,X.base.get? b=some o→X.s₀.heap.get? b=some o∧X.H₀ b=none
 bsz:X.base.objs.size ≤ X.s₀.heap.objs.size
 noex:∀ b o,X.base.get? b=some o→b ∉ X.ex
 exfs:∀ b ∈ X.ex,b ∉ X.fs
 funs:X.s₀.heap.FunFrames X.base X.outer
 frf:∀ b ∈ X.fs,X.H₀ b=none
structure Inv (X:Cx) (pins:List (Addr × Obj)) (σ:List (Option V)) (H:Hp) (s:Shared):Prop where
 ok:X.Ok
 os:s.os=X.s₀.os
 bare:AllBare s.gens
 base:Un X.fs X.ex X.H₀ H X.s₀.heap s.heap
 loc:∃ m,s.heap.Ns X.env.locals m∧∀ (i:Nat) (x:Str) (v:V),X.N[i]? = some x→σ[i]? = some (some v)→Vis X.env.scope x→∃ u,RelV v u∧Look X.env s.heap m x u
 cell:∀ x c,X.env.cells.lookup x=some c→∃ v,s.heap.IsCell c v
 free:H X.env.locals=none
 freeC:∀ x c,X.env.cells.lookup x=some c→H c=none
 pin:∀ p ∈ X.pn ++ pins,s.heap.get? p.1=some p.2∧H p.1=none∧p.1 ≠ X.env.locals∧p.1 ∉ X.fs∧∀ v,p.2.data ≠ .cell v
 hok:HOk X.prog X.w H s.heap
 len:σ.length=X.N.length
section
variable {X:Cx} {pins:List (Addr × Obj)} {σ:List (Option V)} {H H':Hp} {s:Shared} {h':Heap}
theorem Cx.Ok.nofr (ok:X.Ok) {b:Addr} {o:Obj} (e:X.base.get? b=some o):b ∉ X.fs:=fun hb=>by
 have:=(ok.funs.mem hb).1
 rw [e] at this;cases this
theorem Inv.bs (I:Inv X pins σ H s):∀ b o,X.base.get? b=some o→s.heap.get? b=some o∧H b=none:=fun b o e =>
 ⟨I.base.keep b o (I.ok.bs b o e).1 (I.ok.bs b o e).2 (I.ok.nofr e) (I.ok.noex b o e),I.base.free b o (I.ok.bs b o e).1 (I.ok.bs b o e).2 (I.ok.noex b o e)⟩
theorem Inv.bk (I:Inv X pins σ H s):∀ b o,X.base.get? b=some o→s.heap.get? b=some o:=fun b o e=>(I.bs b o e).1
theorem Inv.mod (I:Inv X pins σ H s):Mod X.K X.mg X.base:=I.ok.mod
theorem Inv.kIn (I:Inv X pins σ H s):X.K.In s.heap:=I.ok.mod.kin.keeps I.bk
theorem Inv.nolimit (I:Inv X pins σ H s):s.heap.NoLimit:=I.ok.mod.nolimit.keeps I.bk
theorem Inv.lt (I:Inv X pins σ H s):X.env.locals < s.heap.objs.size:=let ⟨_,hn,_⟩:=I.loc;hn.lt
theorem Inv.sz (I:Inv X pins σ H s):X.s₀.heap.objs.size ≤ s.heap.objs.size:=Nat.le_trans I.ok.above (Nat.le_of_lt I.lt)
theorem Inv.nofs (I:Inv X pins σ H s) {a:Addr} (h:s.heap.objs.size ≤ a):a ∉ X.fs:=fun hb=>by
 obtain ⟨_,o,ho,_⟩:=I.ok.funs.mem hb
 exact absurd (Nat.lt_of_lt_of_le (Heap.lt_size ho) (Nat.le_trans I.sz h)) (Nat.lt_irrefl _)
theorem Inv.cne (I:Inv X pins σ H s):∀ x c,X.env.cells.lookup x=some c→c ≠ X.env.locals:=fun x c e z=>by
 obtain ⟨v,o,ho,hd⟩:=I.cell x c e
 obtain ⟨m,⟨o',es,ep,ho',hd',_⟩,_⟩:=I.loc
 rw [z,ho'] at ho;cases ho;rw [hd'] at hd;cases hd
theorem Inv.funs (I:Inv X pins σ H s):s.heap.FunFrames X.base X.outer:=by
 have all:∀ (l:List Env),(∀ b ∈ frs l,b ∈ X.fs)→X.s₀.heap.FunFrames X.base l→s.heap.FunFrames X.base l:=by
  intro l
  induction l with
  | nil=>intro _ _;trivial
  | cons env r ih =>
   intro hs hl
   obtain ⟨hk,⟨L,o,hf,hn,ho,hd⟩,hr⟩:=hl
   have hL:L ∈ X.fs:=hs L (by unfold frs;rw [List.filterMap_cons,hf];exact List.mem_cons_self)
   obtain ⟨sl,e⟩:=I.base.slot L o ho (I.ok.frf L hL) hL fun z=>I.ok.exfs L z hL
   exact ⟨hk,⟨L,_,hf,hn,e,hd⟩,ih (fun b hb=>hs b (by unfold frs;rw [List.filterMap_cons,hf];exact List.mem_cons_of_mem _ hb)) hr⟩
 exact all X.outer (fun _ hb=>hb) I.ok.funs
theorem Inv.stack (I:Inv X pins σ H s):s.heap.FunFrames X.base X.stack:=by
 rcases I.ok.stk with e | ⟨e,hf⟩
 ·rw [e];exact I.funs
 ·rw [e]
  obtain ⟨m,hn,_⟩:=I.loc
  refine .cons (by rw [I.ok.kind];decide) hf hn ?_ I.funs
  exact Heap.get?_none_of_le (Nat.le_trans I.ok.bsz I.ok.above)
theorem Inv.zfg (I:Inv X pins σ H s):∀ b ∈ frs X.stack,b ∈ X.env.locals :: X.fs:=fun b hb=>by
 rcases I.ok.stk with e | ⟨e,hf⟩
 ·rw [e] at hb;exact List.mem_cons_of_mem _ hb
 ·rw [e] at hb
  unfold frs at hb
  rw [List.filterMap_cons,hf] at hb
  exact hb
theorem Inv.zgl (I:Inv X pins σ H s):∀ b ∈ frs X.stack,H b=none:=fun b hb=>by
 rcases List.mem_cons.mp (I.zfg b hb) with e | hb
 ·rw [e];exact I.free
 ·obtain ⟨_,o,ho,_⟩:=I.ok.funs.mem hb
  exact I.base.free b o ho (I.ok.frf b hb) fun z=>I.ok.exfs b z hb
theorem Inv.step {g':Array GenState} {t':Nat} {d':Drawn} {ch:List Addr} (I:Inv X pins σ H s)
  (hch:∀ b ∈ ch,(b ∈ X.ex∨X.s₀.heap.objs.size ≤ b)∧b ≠ X.env.locals∧(∀ x c,X.env.cells.lookup x=some c→c ≠ b)∧∀ p ∈ X.pn ++ pins,p.1 ≠ b)
  (keep:∀ b o,b ≠ X.env.locals→b ∉ X.fs→b ∉ ch→s.heap.get? b=some o→H b=none→h'.get? b=some o)
  (slot:∀ b o,b ≠ X.env.locals→b ∈ X.fs→b ∉ ch→s.heap.get? b=some o→H b=none→∃ sl,h'.get? b=some { o with slots:=sl }) (free:∀ b o,b ∉ ch→s.heap.get? b=some o→H b=none→H' b=none)
  (there:∀ b o,b ∉ ch→s.heap.get? b=some o→∃ o',h'.get? b=some o')
  (tups:∀ b xs,H b=some (.tup xs)→H' b=some (.tup xs)) (frzs:∀ b o u,H b=some (.frz o u)→H' b=some (.frz o u)) (tbls:∀ b ps,H b=some (.tbl ps)→∃ more,H' b=some (.tbl (ps ++ more)))
  (ns:∀ m,s.heap.Ns X.env.locals m→h'.Ns X.env.locals m) (hok:HOk X.prog X.w H' h') (hg:AllBare g') :
  Inv X pins σ H' { s with heap:=h',gens:=g',drawn:=d',toks:=t' }:=by
 have neL:∀ b o,X.s₀.heap.get? b=some o→b ≠ X.env.locals:=fun b o e=>Nat.ne_of_lt (Nat.lt_of_lt_of_le (Heap.lt_size e) I.ok.above)
 have neC:∀ b o,X.s₀.heap.get? b=some o→b ∉ X.ex→b ∉ ch:=fun b o e hx hb=>by
  rcases (hch b hb).1 with z | z
  ·exact hx z
  ·exact absurd (Nat.lt_of_lt_of_le (Heap.lt_size e) z) (Nat.lt_irrefl _)
 have cellK:∀ x c,X.env.cells.lookup x=some c→∀ v,s.heap.IsCell c v→h'.IsCell c v:=fun x c e v ⟨o,ho,hd⟩=>by
  have nch:c ∉ ch:=fun z=>(hch c z).2.2.1 x c e rfl
  by_cases hc:c ∈ X.fs
  ·obtain ⟨sl,q⟩:=slot c o (I.cne x c e) hc nch ho (I.freeC x c e)
   exact ⟨_,q,hd⟩
  ·exact ⟨o,keep c o (I.cne x c e) hc nch ho (I.freeC x c e),hd⟩
 refine ⟨I.ok,I.os,hg,⟨fun b o e n hb hx=>?_,fun b o e n hb hx=>?_,fun b o e n hx=>?_,fun b o e hx=>?_,fun b xs e=>tups b xs (I.base.tups b xs e),fun b o xs e=>frzs b o xs (I.base.frzs b o xs e),fun b ps e=>?_⟩,?_,fun x c e=>?_,?_,fun x c e=>?_,fun p hp=>?_,hok,I.len⟩
 ·exact keep b o (neL b o e) hb (neC b o e hx) (I.base.keep b o e n hb hx) (I.base.free b o e n hx)
 ·obtain ⟨sl,e1⟩:=I.base.slot b o e n hb hx
  obtain ⟨sl',e2⟩:=slot b _ (neL b o e) hb (neC b o e hx) e1 (I.base.free b o e n hx)
  exact ⟨sl',e2⟩
 ·obtain ⟨o',e1⟩:=I.base.there b o e hx
  exact free b o' (neC b o e hx) e1 (I.base.free b o e n hx)
 ·obtain ⟨o',e1⟩:=I.base.there b o e hx
  exact there b o' (neC b o e hx) e1
 ·obtain ⟨m1,e1⟩:=I.base.tbls b ps e
  obtain ⟨m2,e2⟩:=tbls b _ e1
  exact ⟨m1 ++ m2,by rw [e2,Array.append_assoc]⟩
 ·obtain ⟨m,hn,hl⟩:=I.loc
  refine ⟨m,ns m hn,fun i x v e1 e2 e3=>?_⟩
  obtain ⟨u,r,l⟩:=hl i x v e1 e2 e3
  refine ⟨u,r,?_⟩
  rcases l with l | ⟨k,c,e,z⟩
  ·exact .inl l
  ·exact .inr ⟨k,c,e,cellK x c e _ z⟩
 ·obtain ⟨v,z⟩:=I.cell x c e
  exact ⟨v,cellK x c e v z⟩
 ·obtain ⟨m,⟨o,_,_,ho,_⟩,_⟩:=I.loc
  exact free _ o (fun z=>(hch _ z).2.1 rfl) ho I.free
 ·obtain ⟨v,o,ho,hd⟩:=I.cell x c e
  exact free c o (fun z=>(hch c z).2.2.1 x c e rfl) ho (I.freeC x c e)
 ·obtain ⟨e,n,ne,nf,d⟩:=I.pin p hp
  have nch:p.1 ∉ ch:=fun z=>(hch p.1 z).2.2.2 p hp rfl
  exact ⟨keep p.1 p.2 ne nf nch e n,free p.1 p.2 nch e n,ne,nf,d⟩
theorem Inv.un {t':Nat} (I:Inv X pins σ H s) (u:Un X.fs [] H H' s.heap h') (hok:HOk X.prog X.w H' h'):Inv X pins σ H' { s with heap:=h',toks:=t' }:=by
 obtain ⟨m,⟨o,es,ep,ho,r⟩,_⟩:=id I.loc
 obtain ⟨sl,hL⟩:=u.any ho I.free (by simp)
 exact I.step (g':=s.gens) (d':=s.drawn) (ch:=[]) (fun _ z=>nomatch z) (fun b o _ hb _ e n=>u.keep b o e n hb (by simp)) (fun b o _ hb _ e n=>u.slot b o e n hb (by simp)) (fun b o _ e n=>u.free b o e n (by simp)) (fun b o _ e=>u.there b o e (by simp)) u.tups u.frzs u.tbls (fun m' hm=>by
  obtain ⟨o',es',ep',ho',r'⟩:=hm
  rw [ho] at ho';cases ho'
  exact ⟨_,es',ep',hL,r'⟩) hok I.bare
theorem Inv.call {g':Array GenState} {t':Nat} {d':Drawn} {ch:List Addr} (I:Inv X pins σ H s) (u:Un (frs X.stack) ch H H' s.heap h') (hok:HOk X.prog X.w H' h') (hg:AllBare g')
  (hch:∀ b ∈ ch,(b ∈ X.ex∨X.s₀.heap.objs.size ≤ b)∧b ≠ X.env.locals∧(∀ x c,X.env.cells.lookup x=some c→c ≠ b)∧∀ p ∈ X.pn ++ pins,p.1 ≠ b) :
  Inv X pins σ H' { s with heap:=h',gens:=g',drawn:=d',toks:=t' }:=by
 obtain ⟨m,⟨o,es,ep,ho,r⟩,_⟩:=id I.loc
 obtain ⟨sl,hL⟩:=u.any ho I.free fun z=>(hch _ z).2.1 rfl
 exact I.step (ch:=ch) hch (fun b o hL hb hc e n=>u.keep b o e n (fun z=>(List.mem_cons.mp (I.zfg b z)).elim hL hb) hc) (fun b o _ _ hc e n=>u.any e n hc) (fun b o hc e n=>u.free b o e n hc) (fun b o hc e=>u.there b o e hc) u.tups u.frzs u.tbls (fun m' hm=>by
  obtain ⟨o',es',ep',ho',r'⟩:=hm
  rw [ho] at ho';cases ho'
  exact ⟨_,es',ep',hL,r'⟩) hok hg
theorem Inv.turned {t':Nat} {it:Addr} (I:Inv X pins σ H s) (k:∀ b o,b ≠ it→s.heap.get? b=some o→h'.get? b=some o) (hn:H it=none) (hL:it ≠ X.env.locals)
  (h1:it ∈ X.ex∨X.s₀.heap.objs.size ≤ it) (h2:∀ x c,X.env.cells.lookup x=some c→c ≠ it) (h3:∀ p ∈ X.pn ++ pins,p.1 ≠ it):Inv X pins σ H { s with heap:=h',toks:=t' }:=by
 have nit:∀ b u,H b=some u→b ≠ it:=fun b u e z=>by rw [z,hn] at e;cases e
 refine I.step (g':=s.gens) (d':=s.drawn) (ch:=[it]) (fun b hb=>?_) (fun b o _ _ hc e _=>k b o (fun z=>hc (by simp [z])) e) (fun b o _ _ hc e _=>⟨o.slots,k b o (fun z=>hc (by simp [z])) e⟩) (fun _ _ _ _ n=>n)
  (fun b o hc e=>⟨o,k b o (fun z=>hc (by simp [z])) e⟩) (fun _ _ e=>e) (fun _ _ _ e=>e) (fun b ps e=>⟨#[],by rw [e];simp⟩) (fun m hm=>?_) (fun b u e=>?_) I.bare
 ·have e:b=it:=by simpa using hb
  subst e
  exact ⟨h1,hL,h2,h3⟩
 ·obtain ⟨o,es,ep,ho,r⟩:=hm
  exact ⟨o,es,ep,k _ o (Ne.symm hL) ho,r⟩
 ·refine (I.hok b u e).stay (fun c v hc q=>k c v ?_ q) (fun _ q=>q) fun _ _ q=>q
  rcases hc with z | z
  ·rw [z];exact nit b u e
  ·exact nit c _ z
theorem Inv.tok (I:Inv X pins σ H s) (t:Nat):Inv X pins σ H { s with toks:=t }:=I.un (h':=s.heap) (t':=t) Un.refl I.hok
theorem Inv.kept {t':Nat} (I:Inv X pins σ H s) (k:∀ b u,s.heap.get? b=some u→h'.get? b=some u):Inv X pins σ H { s with heap:=h',toks:=t' }:=I.un (Un.kept k) (I.hok.kept k)
theorem Inv.laid {a:Addr} {o:HO} {t':Nat} (I:Inv X pins σ H s) (k:∀ b u,s.heap.get? b=some u→h'.get? b=some u) (hp:s.heap.objs.size ≤ a) (new:zbB X.prog X.w (upd H a o) h' a o) :
  Inv X pins σ (upd H a o) { s with heap:=h',toks:=t' }:=I.un (Un.laid k hp (I.hok.fresh hp)) (I.hok.laid k hp new)
theorem Inv.write {x e:Addr} {o:HO} {t':Nat} (I:Inv X pins σ H s) (mu:Mut (H x)) (he:e=x∨H e=some (.own x)) (k:∀ b u,b ≠ e→s.heap.get? b=some u→h'.get? b=some u) (heo:∃ u,h'.get? e=some u)
  (new:zbB X.prog X.w (upd H x o) h' x o):Inv X pins σ (upd H x o) { s with heap:=h',toks:=t' }:=I.un (Un.write mu he k heo) (I.hok.write mu he k heo new)
theorem Inv.zfY {pins':List (Addr × Obj)} (I:Inv X pins σ H s) (h:∀ p ∈ pins',s.heap.get? p.1=some p.2∧H p.1=none∧p.1 ≠ X.env.locals∧p.1 ∉ X.fs∧∀ v,p.2.data ≠ .cell v):Inv X pins' σ H s :=
 ⟨I.ok,I.os,I.bare,I.base,I.loc,I.cell,I.free,I.freeC,fun p hp=>(List.mem_append.mp hp).elim (fun z=>I.pin p (List.mem_append_left _ z)) (h p),I.hok,I.len⟩
theorem zgz {N:List Str} (hN:N.Nodup) {i j:Nat} {x:Str} (a:N[i]? = some x) (b:N[j]? = some x):i=j:=by
 obtain ⟨h1,e1⟩:=List.getElem?_eq_some_iff.mp a
 obtain ⟨h2,e2⟩:=List.getElem?_eq_some_iff.mp b
 exact (List.getElem_inj hN).mp (e1.trans e2.symm)
theorem ziB {M:Model} {A:Around} {E:Value→Shared→Prop} {i:Nat} {x:Str} {v:V} {u:Value} {Q:Unit→Shared→Prop} (I:Inv X pins σ H s) (hN:X.N.Nodup) (hi:X.N[i]? = some x) (hx:Loc X.env.scope x) (r:RelV v u)
  (h:∀ s',Inv X pins (σ.set i (some v)) H s'→(∃ a,Heap.SameBut a s.heap s'.heap∧(a=X.env.locals∨X.env.cells.lookup x=some a))→Q () s') (hf:X.fn x=true∨X.env.scope.names.lookup x=some .local:=by first | exact .inl rfl | exact .inr rfl | assumption):wpAny M A (storeName X.env x u) Q E s:=by
 obtain ⟨m,hn,hl⟩:=id I.loc
 have hcls:(X.env.scope.kind == .class || (X.env.scope.kind == .module && X.env.locals != X.env.globals))=false:=by rw [I.ok.kind];rfl
 have hiσ:i < σ.length:=by rw [I.len];exact (List.getElem?_eq_some_iff.mp hi).1
 have cne:=I.cne
 have tracked:∀ {a:Addr} {h':Heap},(∃ o,s.heap.get? a=some o∧H a=none)→Heap.SameBut a s.heap h'→HOk X.prog X.w H h':=fun {a h'} ha hs b ob e=>by
  obtain ⟨_,_,hfree⟩:=ha
  refine (I.hok b ob e).stay (fun c w' hc q=>(hs.2 c ?_).trans q) (fun _ q=>q) fun _ _ q=>q
  rintro rfl
  rcases hc with rfl | hc
  ·rw [hfree] at e;cases e
  ·rw [hfree] at hc;cases hc
 rcases hx with hk | hk
 ·refine wpAny_storeName_local hk hn (fun h' hn' hs=>?_) hcls
  obtain ⟨oL,_,_,hoL,_⟩:=id hn
  refine h _ ⟨I.ok,I.os,I.bare,⟨fun b o e n hb hx=>?_,fun b o e n hb hx=>?_,I.base.free,fun b o e hx=>?_,I.base.tups,I.base.frzs,I.base.tbls⟩,⟨_,hn',fun j y v' e1 e2 e3=>?_⟩,fun y c e=>?_,I.free,I.freeC,fun p hp=>?_,tracked ⟨oL,hoL,I.free⟩ hs,by simpa using I.len⟩ ⟨_,hs, .inl rfl⟩
  ·exact (hs.2 b (Nat.ne_of_lt (Nat.lt_of_lt_of_le (Heap.lt_size e) I.ok.above))).trans (I.base.keep b o e n hb hx)
  ·obtain ⟨sl,e1⟩:=I.base.slot b o e n hb hx
   exact ⟨sl,(hs.2 b (Nat.ne_of_lt (Nat.lt_of_lt_of_le (Heap.lt_size e) I.ok.above))).trans e1⟩
  ·obtain ⟨o',e1⟩:=I.base.there b o e hx
   exact ⟨o',(hs.2 b (Nat.ne_of_lt (Nat.lt_of_lt_of_le (Heap.lt_size e) I.ok.above))).trans e1⟩
  ·by_cases hj:j=i
   ·subst hj
    rw [hi] at e1;cases e1
    rw [List.getElem?_set_self hiσ] at e2
    cases e2
    exact ⟨u,r, .inl ⟨hk,by simp⟩⟩
   ·rw [List.getElem?_set_ne (Ne.symm hj)] at e2
    obtain ⟨u',r',q⟩:=hl j y v' e1 e2 e3
    refine ⟨u',r',?_⟩
    rcases q with ⟨k,e⟩ | ⟨k,c,e,z⟩
    ·refine .inl ⟨k,?_⟩
     have:y ≠ x:=fun e=>hj (zgz hN e1 (e ▸ hi))
     simp [this,e]
    ·exact .inr ⟨k,c,e,z.sameBut hs (cne y c e)⟩
  ·obtain ⟨w',z⟩:=I.cell y c e
   exact ⟨w',z.sameBut hs (cne y c e)⟩
  ·obtain ⟨e,n,ne,nf,d⟩:=I.pin p hp
   exact ⟨(hs.2 p.1 ne).trans e,n,ne,nf,d⟩
 ·have hfn:X.fn x=true:=by
   rcases hf with z | z
   ·exact z
   ·rw [z] at hk;cases hk
  obtain ⟨c,hc⟩:=I.ok.has x (.inl hk)
  obtain ⟨w',z⟩:=I.cell x c hc
  refine wpAny_storeName_cell I.ok.kind hk hc z (fun h' hc' hs=>?_)
  obtain ⟨oc,hoc,hocd⟩:=id z
  refine h { s with heap:=h' } ⟨I.ok,I.os,I.bare,⟨fun b o e n hb hx=>?_,fun b o e n hb hx=>?_,I.base.free,fun b o e hx=>?_,I.base.tups,I.base.frzs,I.base.tbls⟩,⟨m,hn.sameBut hs (Ne.symm (cne x c hc)),fun j y v' e1 e2 e3=>?_⟩,fun y c' e=>?_,I.free,I.freeC,fun p hp=>?_,tracked ⟨oc,hoc,I.freeC x c hc⟩ hs,by simpa using I.len⟩ ⟨c,hs, .inr hc⟩
  ·exact (hs.2 b (Nat.ne_of_lt (Nat.lt_of_lt_of_le (Heap.lt_size e) (I.ok.cab x c hfn hc)))).trans (I.base.keep b o e n hb hx)
  ·obtain ⟨sl,e1⟩:=I.base.slot b o e n hb hx
   exact ⟨sl,(hs.2 b (Nat.ne_of_lt (Nat.lt_of_lt_of_le (Heap.lt_size e) (I.ok.cab x c hfn hc)))).trans e1⟩
  ·obtain ⟨o',e1⟩:=I.base.there b o e hx
   exact ⟨o',(hs.2 b (Nat.ne_of_lt (Nat.lt_of_lt_of_le (Heap.lt_size e) (I.ok.cab x c hfn hc)))).trans e1⟩
  ·by_cases hj:j=i
   ·subst hj
    rw [hi] at e1;cases e1
    rw [List.getElem?_set_self hiσ] at e2
    cases e2
    exact ⟨u,r, .inr ⟨.inl hk,c,hc,hc'⟩⟩
   ·rw [List.getElem?_set_ne (Ne.symm hj)] at e2
    obtain ⟨u',r',q⟩:=hl j y v' e1 e2 e3
    refine ⟨u',r',?_⟩
    rcases q with q | ⟨k,c',e,z'⟩
    ·exact .inl q
    ·refine .inr ⟨k,c',e,z'.sameBut hs ?_⟩
     rintro rfl
     exact hj (zgz hN e1 (I.ok.inj _ _ _ e hc ▸ hi))
  ·by_cases hcc:c'=c
   ·subst hcc;exact ⟨_,hc'⟩
   ·obtain ⟨w2,z2⟩:=I.cell y c' e
    exact ⟨w2,z2.sameBut hs hcc⟩
  ·obtain ⟨e,n,ne,nf,d⟩:=I.pin p hp
   refine ⟨(hs.2 p.1 ?_).trans e,n,ne,nf,d⟩
   intro q
   rw [q,hoc] at e
   have q':oc=p.2:=Option.some.inj e
   exact d w' (by rw [← q'];exact hocd)
theorem zgX {M:Model} {A:Around} {E:Value→Shared→Prop} {i:Nat} {x:Str} {v:V} {u:Value} {Q:Unit→Shared→Prop} (I:Inv X pins σ H s) (hN:X.N.Nodup) (hi:X.N[i]? = some x) (hx:Loc X.env.scope x) (r:RelV v u)
  (h:∀ s',Inv X pins (σ.set i (some v)) H s'→Q () s') (hf:X.fn x=true∨X.env.scope.names.lookup x=some .local:=by first | exact .inl rfl | exact .inr rfl | assumption):wpAny M A (storeName X.env x u) Q E s :=
 ziB I hN hi hx r (fun s' I' _=>h s' I') hf
theorem Inv.zmE {s':Shared} {ch:List Addr} (I:Inv X pins σ H s) (ho:s'.os=s.os) (u:Un (frs X.stack) ch H H' s.heap s'.heap) (hok:HOk X.prog X.w H' s'.heap) (hg:AllBare s'.gens)
  (hch:∀ b ∈ ch,(b ∈ X.ex∨X.s₀.heap.objs.size ≤ b)∧b ≠ X.env.locals∧(∀ x c,X.env.cells.lookup x=some c→c ≠ b)∧∀ p ∈ X.pn ++ pins,p.1 ≠ b):Inv X pins σ H' s':=by
 obtain ⟨h',g',d',t',o'⟩:=s'
 have e:o'=s.os:=ho
 subst e
 exact I.call (g':=g') (t':=t') (d':=d') u hok hg hch
end
abbrev XK:=Value→Option Addr→Hp→Prop
abbrev St:=List (Option V)
abbrev VK:=V→Hp→Prop
abbrev TE:=St→Hp→VK→Prop
abbrev TT:=St→Hp→(Bool→Hp→Prop)→Prop
abbrev TA:=St→Hp→(List V→Hp→Prop)→Prop
structure Ends where
 nx:St→Hp→Prop
 rt:VK
 bk:St→Hp→Prop:=fun _ _=>False
 ct:St→Hp→Prop:=fun _ _=>False
abbrev TS:=Ends→St→Hp→Prop
def EP (X:Cx) (pins:List (Addr × Obj)) (σ:St) (Q:VK) (u:Value) (s':Shared):Prop:=∃ v H',Inv X pins σ H' s'∧RelV v u∧Q v H'
def TP (X:Cx) (pins:List (Addr × Obj)) (σ:St) (Q:Bool→Hp→Prop) (b:Bool) (s':Shared):Prop:=∃ H',Inv X pins σ H' s'∧Q b H'
def AP (X:Cx) (pins:List (Addr × Obj)) (σ:St) (Q:List V→Hp→Prop) (us:List Value) (s':Shared):Prop:=∃ vs H',Inv X pins σ H' s'∧Vals vs us∧Q vs H'
def SP (X:Cx) (pins:List (Addr × Obj)) (D:Ends) (f:Flow) (s':Shared):Prop :=
 match f with
 | .next=>∃ σ' H',Inv X pins σ' H' s'∧D.nx σ' H'
 | .brk=>∃ σ' H',Inv X pins σ' H' s'∧D.bk σ' H'
 | .cont=>∃ σ' H',Inv X pins σ' H' s'∧D.ct σ' H'
 | .ret u=>∃ v σ' H',Inv X pins σ' H' s'∧RelV v u∧D.rt v H'
def PE (X:Cx) (e:Expr) (t:TE):Prop :=
 ∀ (pins:List (Addr × Obj)) (s:Shared) (σ:St) (H:Hp) (Q:VK),Inv X pins σ H s→t σ H Q→wpAny (model X.prog X.w) X.A (eval e X.env) (EP X pins σ Q) X.xe s
def PT (X:Cx) (e:Expr) (t:TT):Prop :=
 ∀ (pins:List (Addr × Obj)) (s:Shared) (σ:St) (H:Hp) (Q:Bool→Hp→Prop),Inv X pins σ H s→t σ H Q→wpAny (model X.prog X.w) X.A (isTrue e X.env (eval e X.env)) (TP X pins σ Q) X.xe s
def PW (X:Cx) (e:Expr) (t:TT):Prop :=
 ∀ (whole:Sem Value) (pins:List (Addr × Obj)) (s:Shared) (σ:St) (H:Hp) (Q:Bool→Hp→Prop),Inv X pins σ H s→t σ H Q→wpAny (model X.prog X.w) X.A (isTrue e X.env whole) (TP X pins σ Q) X.xe s
theorem PW.pt {X:Cx} {e:Expr} {t:TT} (h:PW X e t):PT X e t:=h _
def PA (X:Cx) (es:List Expr) (t:TA):Prop :=
 ∀ (pos:Pos) (pins:List (Addr × Obj)) (s:Shared) (σ:St) (H:Hp) (Q:List V→Hp→Prop),Inv X pins σ H s→t σ H Q→wpAny (model X.prog X.w) X.A (spliced (backTo pos (starEach es X.env))) (AP X pins σ Q) X.xe s
def PS (X:Cx) (st:Stmt) (t:TS):Prop :=
 ∀ (pins:List (Addr × Obj)) (s:Shared) (σ:St) (H:Hp) (D:Ends),Inv X pins σ H s→t D σ H→wpAny (model X.prog X.w) X.A (exec st X.env) (SP X pins D) X.xe s
def PSs (X:Cx) (st:List Stmt) (t:TS):Prop :=
 ∀ (pins:List (Addr × Obj)) (s:Shared) (σ:St) (H:Hp) (D:Ends),Inv X pins σ H s→t D σ H→wpAny (model X.prog X.w) X.A (execs st X.env) (SP X pins D) X.xe s
theorem thn {α:Type} {t:Sem α} {Q Q':α→Shared→Prop} {M:Model} {A:Around} {E:Value→Shared→Prop} {s:Shared} (h:wpAny M A t Q E s) (hQ:∀ a s,Q a s→Q' a s):wpAny M A t Q' E s:=wpAny_mono h hQ fun _ _ x=>x
end L2
namespace L2
open PySem PySem.Spec PyProof.Rows
section
variable {X:Cx}
def tVar (i:Nat):TE:=fun σ H Q=>∃ v,σ[i]? = some (some v)∧Q v H
def tC (v:V):TE:=fun _ H Q=>Q v H
theorem zj2 {i:Nat} {x:Str} {pos:Pos} (hN:X.N[i]? = some x) (hv:Vis X.env.scope x) (hd:(x == ("__debug__" : Str))=false:=by decide) (hcd:(x == ("__classdict__" : Str))=false:=by decide):PE X (.Name x pos) (tVar i):=by
 intro pins s σ H Q I h
 obtain ⟨v,e,h⟩:=h
 obtain ⟨m,hn,hl⟩:=I.loc
 obtain ⟨u,r,l⟩:=hl i x v hN e hv
 have fin:EP X pins σ Q u s:=⟨v,H,I,r,h⟩
 rcases l with ⟨hk,hm⟩ | ⟨hk,c,hc,hcell⟩
 ·exact wpAny_Name (wpAny_loadName_local I.ok.kind hk hn hm fin) hd
 ·rcases hk with hk | hk
  ·exact wpAny_Name (wpAny_loadName_cell I.ok.kind hk hc hcell fin) hd
  ·exact wpAny_Name (wpAny_loadName_free I.ok.kind hk hc hcell fin hcd) hd
theorem zna {i j pos}:PE X (.Constant (.int i) j pos) (tC (.int i)):=fun _ _ _ H _ I h=>wpAny_Constant_int ⟨.int i,H,I.tok _,⟨_,rfl⟩,h⟩
theorem zni {b j pos}:PE X (.Constant (.bool b) j pos) (tC (.bl b)):=fun _ _ _ H _ I h=>Constant_bool ⟨.bl b,H,I,rfl,h⟩
theorem zmh {x j pos}:PE X (.Constant (.str x) j pos) (tC (.str x)):=fun _ _ _ H _ I h=>Calls.Constant_str ⟨.str x,H,I.tok _,⟨_,rfl⟩,h⟩
def Gl (X:Cx) (x:Str):Prop:=X.env.kindOf x=some .globalImplicit
theorem zgg {E:Value→Shared→Prop} {pins:List (Addr × Obj)} {s:Shared} {σ:St} {H:Hp} {x:Str} {u:Value} {pos:Pos} {Q:Value→Shared→Prop} (I:Inv X pins σ H s) (hg:Gl X x) (hm:X.mg x=some u) (h:Q u s)
  (hd:(x == ("__debug__" : Str))=false:=by decide):wpAny (model X.prog X.w) X.A (eval (.Name x pos) X.env) Q E s :=
 Calls.Name_function_global I.ok.kind hg (Calls.loadGlobal_global (by rw [I.ok.glob];exact I.mod.glob.keeps I.bk) hm h) hd
theorem zdn {E:Value→Shared→Prop} {pins:List (Addr × Obj)} {s:Shared} {σ:St} {H:Hp} {x:Str} {u:Value} {pos:Pos} {Q:Value→Shared→Prop} (I:Inv X pins σ H s) (hg:Gl X x) (hm:X.mg x=none) (hv:bootBuiltins x=some u) (h:Q u s)
  (hn:x ≠ "__name__":=by decide) (hd:(x == ("__debug__" : Str))=false:=by decide):wpAny (model X.prog X.w) X.A (eval (.Name x pos) X.env) Q E s:=by
 obtain ⟨mb,h1,h2⟩:=I.mod.blt
 exact Calls.Name_function_global I.ok.kind hg (Calls.loadGlobal_builtin (by rw [I.ok.glob];exact I.mod.glob.keeps I.bk) hm (by rw [I.ok.blt];exact h1.keeps I.bk) ((h2 x hn).trans hv) h) hd
theorem zlh {x:Str} {v:V} {u:Value} {pos:Pos} (hg:Gl X x) (hm:X.mg x=some u) (r:RelV v u) (hd:(x == ("__debug__" : Str))=false:=by decide):PE X (.Name x pos) (tC v) :=
 fun _ _ _ H _ I h=>zgg I hg hm ⟨v,H,I,r,h⟩ hd
theorem zkD {x:Str} {v:V} {u:Value} {pos:Pos} (hg:Gl X x) (hm:X.mg x=none) (hv:bootBuiltins x=some u) (r:RelV v u) (hn:x ≠ "__name__":=by decide) (hd:(x == ("__debug__" : Str))=false:=by decide):PE X (.Name x pos) (tC v) :=
 fun _ _ _ H _ I h=>zdn I hg hm hv ⟨v,H,I,r,h⟩ hn hd
variable {a b:Expr} {ta tb:TE} {pos:Pos}
def tB (t:TE):TT:=fun σ H Q=>t σ H fun x H1=>∃ c,x = .bl c∧Q c H1
theorem zmC {e:Expr} {t:TE} (h:PE X e t) (he:∀ whole,isTrue e X.env whole=(do let v ← whole;standAt e.pos;holding [v] (truthy v)):=by intro _;rfl):PT X e (tB t):=by
 intro pins s σ H Q I hw
 refine isTrue_plain (thn (h pins s σ H _ I hw) fun v s1 ⟨x,H1,I1,r1,q1⟩=>?_) (he _)
 obtain ⟨d,rfl,q⟩:=q1
 cases r1
 exact wpAny_truthy_bool ⟨H1,I1,q⟩
variable {tA tB':TT} {rest:List Expr}
def tOr (t u:TT):TT:=fun σ H Q=>t σ H fun c H1=>if c=true then Q true H1 else u σ H1 Q
def tNot (t:TT):TT:=fun σ H Q=>t σ H fun c H1=>Q (!c) H1
theorem pw_or1 (ha:PT X a tA):PW X (.BoolOp .Or [a] pos) tA:=by
 intro wh pins s σ H Q I h
 refine isTrue_or (thn (ha pins s σ H Q I h) fun c s1 e=>?_)
 cases c with
 | false=>exact isTrue_or_nil e
 | true=>exact e
theorem pw_or (ha:PT X a tA) (hb:PW X (.BoolOp .Or (b :: rest) pos) tB'):PW X (.BoolOp .Or (a :: b :: rest) pos) (tOr tA tB'):=by
 intro wh pins s σ H Q I h
 refine isTrue_or (thn (ha pins s σ H _ I h) fun c s1 ⟨H1,I1,q1⟩=>?_)
 cases c with
 | true=>exact ⟨H1,I1,q1⟩
 | false=>exact hb wh pins s1 σ H1 Q I1 q1
theorem zmf (ha:PT X a tA):PT X (.UnaryOp .Not a pos) (tNot tA):=by
 intro pins s σ H Q I h
 exact isTrue_not (ha pins s σ H (fun c H1=>Q (!c) H1) I h)
def znO (ta tb:TE):TE:=fun σ H Q=>ta σ H fun x H1=>∃ c,x = .bl c∧if c=true then tb σ H1 Q else Q (.bl false) H1
def tOrV (ta tb:TE):TE:=fun σ H Q=>ta σ H fun x H1=>∃ c,x = .bl c∧if c=true then Q (.bl true) H1 else tb σ H1 Q
def znB (ta:TE):TE:=fun σ H Q=>ta σ H fun x H1=>∃ c,x = .bl c∧Q (.bl (!c)) H1
theorem zmy {op} {t:TE} (h:PE X a t):PE X (.BoolOp op [a] pos) t:=fun pins s σ H Q I hw=>BoolOp_one (h pins s σ H Q I hw)
theorem zlP (ha:PE X a ta) (hb:PE X (.BoolOp .And (b :: rest) pos) tb):PE X (.BoolOp .And (a :: b :: rest) pos) (znO ta tb):=by
 intro pins s σ H Q I h
 refine BoolOp_and (thn (ha pins s σ H _ I h) fun v s1 ⟨x,H1,I1,r1,q1⟩=>?_)
 obtain ⟨c,rfl,q1⟩:=q1
 cases r1
 refine wpAny_truthy_bool ?_
 cases c with
 | true=>exact hb pins s1 σ H1 Q I1 q1
 | false=>exact ⟨.bl false,H1,I1,rfl,q1⟩
theorem znx (ha:PE X a ta) (hb:PE X (.BoolOp .Or (b :: rest) pos) tb):PE X (.BoolOp .Or (a :: b :: rest) pos) (tOrV ta tb):=by
 intro pins s σ H Q I h
 refine BoolOp_or (thn (ha pins s σ H _ I h) fun v s1 ⟨x,H1,I1,r1,q1⟩=>?_)
 obtain ⟨c,rfl,q1⟩:=q1
 cases r1
 refine wpAny_truthy_bool ?_
 cases c with
 | false=>exact hb pins s1 σ H1 Q I1 q1
 | true=>exact ⟨.bl true,H1,I1,rfl,q1⟩
theorem zmI (ha:PE X a ta):PE X (.UnaryOp .Not a pos) (znB ta):=by
 intro pins s σ H Q I h
 refine UnaryOp_ (thn (ha pins s σ H _ I h) fun v s1 ⟨x,H1,I1,r1,q1⟩=>?_)
 obtain ⟨c,rfl,q1⟩:=q1
 cases r1
 exact not_of (wpAny_truthy_bool ⟨.bl (!c),H1,I1,rfl,q1⟩)
def tIf (t:TT) (ta tb:TE):TE:=fun σ H Q=>t σ H fun c H1=>if c=true then ta σ H1 Q else tb σ H1 Q
theorem zjd {c:Expr} (hc:PT X c tA) (ha:PE X a ta) (hb:PE X b tb):PE X (.IfExp c a b pos) (tIf tA ta tb):=by
 intro pins s σ H Q I h
 refine wpAny_IfExp (thn (hc pins s σ H _ I h) fun d s1 ⟨H1,I1,q1⟩=>?_)
 cases d with
 | true=>exact ha pins s1 σ H1 Q I1 q1
 | false=>exact hb pins s1 σ H1 Q I1 q1
end
end L2
namespace L2
open PySem PySem.Spec PyProof.Rows
def SqL (K:PySem.W.Frag) (H:Hp) (a:Addr) (xs:List V):Prop :=
 Rd H a (.lst xs) ∨
  ∃ (o:Obj) (its:Array Value) (n:Nat),K.lookup a=some o∧o.cls = .type "list"∧o.dict=none∧o.data = .seq its n∧its.size ≤ sizeLine∧Vals xs its.toList
def SqT (K:PySem.W.Frag) (H:Hp) (a:Addr) (xs:List V):Prop :=
 Rd H a (.tup xs) ∨
  ∃ (o:Obj) (its:Array Value) (n:Nat),K.lookup a=some o∧o.cls = .type "tuple"∧o.data = .seq its n∧its.size ≤ sizeLine∧Vals xs its.toList
def absV:Value→Option V
 | .none=>some .non
 | .bool b=>some (.bl b)
 | .int i _=>some (.int i)
 | .str x _=>some (.str x)
 | .bytes b _=>some (.byt b)
 | .float b _=>some (.flt b)
 | .ref a=>some (.ref a)
 | .type n=>some (.ty n)
 | _=>none
theorem RelV.abs {x:V} {u:Value} (r:RelV x u):absV u=some x:=by
 cases x with
 | non=>cases r;rfl
 | bl _=>cases r;rfl
 | int _=>obtain ⟨t,rfl⟩:=r;rfl
 | str _=>obtain ⟨t,rfl⟩:=r;rfl
 | byt _=>obtain ⟨t,rfl⟩:=r;rfl
 | flt _=>obtain ⟨t,rfl⟩:=r;rfl
 | ref _=>cases r;rfl
 | ty _=>cases r;rfl
theorem RelV.inj {x y:V} {u:Value} (r:RelV x u) (q:RelV y u):x=y:=Option.some.inj (r.abs.symm.trans q.abs)
theorem Vals.inj:∀ {xs ys:List V} {us:List Value},Vals xs us→Vals ys us→xs=ys
 | _,_,_, .nil, .nil=>rfl
 | _,_,_, .cons r t, .cons r' t'=>by rw [r.inj r',Vals.inj t t']
section
variable {X:Cx} {pins:List (Addr × Obj)} {σ:St} {H:Hp} {s:Shared} {a:Addr} {xs ys:List V}
theorem SqL.of {K:PySem.W.Frag} (h:H a=some (.lst xs)):SqL K H a xs := .inl (.inl h)
theorem SqT.of {K:PySem.W.Frag} (h:H a=some (.tup xs)):SqT K H a xs := .inl (.inl h)
theorem Inv.list (I:Inv X pins σ H s) (h:SqL X.K H a xs):∃ its:List Value,Vals xs its∧PlainL s.heap a its.toArray∧xs.length ≤ sizeLine:=by
 rcases h with h | ⟨o,its,n,hk,hc,hd,hs,hz,r⟩
 ·obtain ⟨z,its,n,r,e⟩:=h.ok I.hok
  exact ⟨its,r,⟨_,n,e,rfl,rfl,rfl⟩,z⟩
 ·refine ⟨its.toList,r,⟨o,n,I.kIn a o hk,hc,hd,by simpa using hs⟩,?_⟩
  have e:=r.length
  simp only [Array.length_toList] at e
  omega
theorem Inv.tuple (I:Inv X pins σ H s) (h:SqT X.K H a xs):∃ its:List Value,Vals xs its∧IsTup s.heap a its.toArray∧xs.length ≤ sizeLine:=by
 rcases h with h | ⟨o,its,n,hk,hc,hs,hz,r⟩
 ·obtain ⟨z,its,r,p⟩:=h.ok I.hok
  exact ⟨its,r,p,z⟩
 ·refine ⟨its.toList,r,⟨o,I.kIn a o hk,hc,n,by simpa using hs⟩,?_⟩
  have e:=r.length
  simp only [Array.length_toList] at e
  omega
theorem Inv.zdz (I:Inv X pins σ H s) (h:SqL X.K H a xs) (h':SqL X.K H a ys):xs=ys:=by
 obtain ⟨its,r,⟨o,n,e,_,_,d⟩,_⟩:=I.list h
 obtain ⟨its',r',⟨o',n',e',_,_,d'⟩,_⟩:=I.list h'
 rw [e] at e';cases e'
 rw [d] at d'
 injection d' with d1 _
 have:its=its':=by simpa using congrArg Array.toList d1
 subst this
 exact r.inj r'
theorem Inv.zdX (I:Inv X pins σ H s) (h:SqT X.K H a xs) (h':SqT X.K H a ys):xs=ys:=by
 obtain ⟨its,r,⟨o,e,_,n,d⟩,_⟩:=I.tuple h
 obtain ⟨its',r',⟨o',e',_,n',d'⟩,_⟩:=I.tuple h'
 rw [e] at e';cases e'
 rw [d] at d'
 injection d' with d1 _
 have:its=its':=by simpa using congrArg Array.toList d1
 subst this
 exact r.inj r'
end
abbrev Cx.wish (X:Cx) (E:Value→Shared→Prop):Cx:={ X with xe:=E }
abbrev Cx.nox (X:Cx):Cx:=X.wish fun _ _=>False
theorem Cx.Ok.wish {X:Cx} (ok:X.Ok) (E:Value→Shared→Prop):(X.wish E).Ok :=
 ⟨ok.mod,ok.kind,ok.glob,ok.blt,ok.above,ok.inj,ok.has,ok.cab,ok.hd,ok.frames,ok.stk,ok.exf,ok.bs,ok.bsz,ok.noex,ok.exfs,ok.funs,ok.frf⟩
theorem Cx.Ok.zb1 {X:Cx} {E:Value→Shared→Prop} (ok:(X.wish E).Ok):X.Ok :=
 ⟨ok.mod,ok.kind,ok.glob,ok.blt,ok.above,ok.inj,ok.has,ok.cab,ok.hd,ok.frames,ok.stk,ok.exf,ok.bs,ok.bsz,ok.noex,ok.exfs,ok.funs,ok.frf⟩
section
variable {X:Cx} {pins:List (Addr × Obj)} {σ:St} {H:Hp} {s:Shared} {E:Value→Shared→Prop}
theorem Inv.wish (I:Inv X pins σ H s) (E:Value→Shared→Prop):Inv (X.wish E) pins σ H s:=⟨I.ok.wish E,I.os,I.bare,I.base,I.loc,I.cell,I.free,I.freeC,I.pin,I.hok,I.len⟩
theorem Inv.zb1 (I:Inv (X.wish E) pins σ H s):Inv X pins σ H s:=⟨I.ok.zb1,I.os,I.bare,I.base,I.loc,I.cell,I.free,I.freeC,I.pin,I.hok,I.len⟩
theorem SP.zb1 {D:Ends} {f:Flow} {s':Shared} (h:SP (X.wish E) pins D f s'):SP X pins D f s':=by
 cases f with
 | next=>obtain ⟨σ',H',I,q⟩:=h;exact ⟨σ',H',I.zb1,q⟩
 | brk=>obtain ⟨σ',H',I,q⟩:=h;exact ⟨σ',H',I.zb1,q⟩
 | cont=>obtain ⟨σ',H',I,q⟩:=h;exact ⟨σ',H',I.zb1,q⟩
 | ret u=>obtain ⟨v,σ',H',I,r,q⟩:=h;exact ⟨v,σ',H',I.zb1,r,q⟩
theorem PE.nox {e:Expr} {t:TE} (h:PE X.nox e t):PE X e t:=fun pins s σ H Q I hw =>
 wpAny_mono (h pins s σ H Q (I.wish _) hw) (fun _ _ ⟨v,H',I',r,q⟩=>⟨v,H',I'.zb1,r,q⟩) fun _ _ z=>False.elim z
theorem PT.nox {e:Expr} {t:TT} (h:PT X.nox e t):PT X e t:=fun pins s σ H Q I hw =>
 wpAny_mono (h pins s σ H Q (I.wish _) hw) (fun _ _ ⟨H',I',q⟩=>⟨H',I'.zb1,q⟩) fun _ _ z=>False.elim z
theorem PSs.nox {st:List Stmt} {t:TS} (h:PSs X.nox st t):PSs X st t:=fun pins s σ H D I hw =>
 wpAny_mono (h pins s σ H D (I.wish _) hw) (fun _ _ q=>q.zb1) fun _ _ z=>False.elim z
end
section
variable {X:Cx} {st:Stmt} {rest:List Stmt} {t u:TS} {e:Expr} {te:TE} {pos:Pos}
def znu:TS:=fun D σ H=>D.nx σ H
def tSeq (t u:TS):TS:=fun D σ H=>t { D with nx:=u D } σ H
theorem zkp:PSs X [] znu:=fun _ _ σ H _ I h=>wpAny_execs_nil ⟨σ,H,I,h⟩
theorem ziT (h1:PS X st t) (h2:PSs X rest u):PSs X (st :: rest) (tSeq t u):=by
 intro pins s σ H D I h
 refine wpAny_execs_cons (thn (h1 pins s σ H { D with nx:=u D } I h) fun f s1 q=>?_)
 cases f with
 | next =>
  obtain ⟨σ',H',I',q⟩:=q
  exact h2 pins s1 σ' H' D I' q
 | ret v=>exact q
 | brk=>exact q
 | cont=>exact q
theorem zkH (h1:PS X st t):PSs X [st] t:=by
 intro pins s σ H D I h
 refine wpAny_execs_cons (thn (h1 pins s σ H D I h) fun f s1 q=>?_)
 cases f with
 | next=>exact wpAny_execs_nil q
 | ret v=>exact q
 | brk=>exact q
 | cont=>exact q
theorem Inv.quiet {pins:List (Addr × Obj)} {σ:St} {H:Hp} {s:Shared} (I:Inv X pins σ H s):interactive X.env=false:=by simp [interactive,I.ok.kind]
def znE (te:TE):TS:=fun D σ H=>te σ H fun _ H1=>D.nx σ H1
theorem zla (he:PE X e te) (hs:swapsWith e none pos.line X.env=pure false:=by rfl):PS X (.Expr e pos) (znE te):=by
 intro pins s σ H D I h
 exact wpAny_Expr_any (thn (he pins s σ H _ I h) fun v s1 ⟨x,H1,I1,r1,q1⟩=>⟨σ,H1,I1,q1⟩) I.quiet hs
def tRet (te:TE):TS:=fun D σ H=>te σ H D.rt
theorem zm6 (he:PE X e te):PS X (.Return (some e) pos) (tRet te):=by
 intro pins s σ H D I h
 exact wpAny_Return_some (thn (he pins s σ H _ I h) fun v s1 ⟨x,H1,I1,r1,q1⟩=>⟨x,σ,H1,I1,r1,q1⟩)
def tIfS (c:TT) (t u:TS):TS:=fun D σ H=>c σ H fun b H1=>if b=true then t D σ H1 else u D σ H1
theorem znT {c:Expr} {a b:List Stmt} {tc:TT} (hc:PT X c tc) (ha:PSs X a t) (hb:PSs X b u):PS X (.If c a b pos) (tIfS tc t u):=by
 intro pins s σ H D I h
 refine wpAny_If (thn (hc pins s σ H _ I h) fun d s1 ⟨H1,I1,q1⟩=>?_)
 cases d with
 | true=>exact ha pins s1 σ H1 D I1 q1
 | false=>exact hb pins s1 σ H1 D I1 q1
def zj5:TS:=fun _ _ _=>False
theorem zja:PS X st zj5:=fun _ _ _ _ _ _ h=>h.elim
theorem zhr {sts:List Stmt}:PSs X sts zj5:=fun _ _ _ _ _ _ h=>h.elim
end
abbrev TG:=V→St→Hp→(St→Hp→Prop)→Prop
abbrev TGs:=List V→St→Hp→(St→Hp→Prop)→Prop
def PG (X:Cx) (target:Expr) (t:TG):Prop :=
 ∀ (pins:List (Addr × Obj)) (s:Shared) (σ:St) (H:Hp) (v:V) (u:Value) (Q:St→Hp→Prop),Inv X pins σ H s→RelV v u→t v σ H Q →
  wpAny (model X.prog X.w) X.A (assign target X.env u) (fun _ s'=>∃ σ' H',Inv X pins σ' H' s'∧Q σ' H') X.xe s
def PGs (X:Cx) (ts:List Expr) (t:TGs):Prop :=
 ∀ (pins:List (Addr × Obj)) (s:Shared) (σ:St) (H:Hp) (vs:List V) (us:List Value) (Q:St→Hp→Prop),Inv X pins σ H s→Vals vs us→t vs σ H Q →
  wpAny (model X.prog X.w) X.A (assignInOrder ((assignEach ts X.env).map (·.2)) us) (fun _ s'=>∃ σ' H',Inv X pins σ' H' s'∧Q σ' H') X.xe s
section
variable {X:Cx} {pos:Pos}
def zm2 (i:Nat):TG:=fun v σ H Q=>Q (σ.set i (some v)) H
theorem zkO {i:Nat} {x:Str} (hN:X.N.Nodup) (hi:X.N[i]? = some x) (hx:Loc X.env.scope x) (hf:X.fn x=true∨X.env.scope.names.lookup x=some .local:=by first | exact .inl rfl | exact .inr rfl | assumption):PG X (.Name x pos) (zm2 i):=by
 intro pins s σ H v u Q I r h
 exact wpAny_assign_Name (zgX I hN hi hx r (fun s' I'=>⟨_,H,I',h⟩) hf)
def gNil:TGs:=fun vs σ H Q=>vs=[]∧Q σ H
def znW (t:TG) (u:TGs):TGs:=fun vs σ H Q=>∃ v r,vs=v :: r∧t v σ H fun σ' H'=>u r σ' H' Q
theorem zkR:PGs X [] gNil:=by
 intro pins s σ H vs us Q I r h
 obtain ⟨e,h⟩:=h
 subst e
 cases r
 exact assignInOrder_nil ⟨σ,H,I,h⟩
theorem zjH {e:Expr} {es:List Expr} {t:TG} {u:TGs} (h1:PG X e t) (h2:PGs X es u)
  (hs:(assignEach (e :: es) X.env).map (·.2)=assign e X.env :: (assignEach es X.env).map (·.2):=by rfl):PGs X (e :: es) (znW t u):=by
 intro pins s σ H vs us Q I r h
 obtain ⟨v,vr,e1,h⟩:=h
 subst e1
 cases r with
 | cons r rr =>
  rw [hs]
  refine assignInOrder_cons (thn (h1 pins s σ H _ _ _ I r h) fun _ s1 ⟨σ1,H1,I1,q1⟩=>?_)
  exact h2 pins s1 σ1 H1 _ _ Q I1 rr q1
def gTup (K:PySem.W.Frag) (n:Nat) (t:TGs):TG:=fun v σ H Q=>∃ a xs,v = .ref a∧SqT K H a xs∧xs.length=n∧t xs σ H Q
theorem zmk {es:List Expr} {k:Nat} {t:TGs} {n:Nat} (hc:X.calm=true) (h:PGs X es t)
  (hn:(assignEach es X.env).length=n:=by rfl) (hst:(assignEach es X.env).findIdx? (·.1)=none:=by rfl):PG X (.Tuple es k pos) (gTup X.K n t):=by
 intro pins s σ H v u Q I r hw
 obtain ⟨a,xs,e1,hq,hl,hw⟩:=hw
 subst e1
 cases r
 obtain ⟨its,rv,ht,hz⟩:=I.tuple hq
 refine assign_Tuple_tuple (I.ok.hd hc) ht (by simp [hn,← hl,rv.length]) hst fun h' hx=>?_
 have I1:Inv X pins σ H { s with heap:=h' }:=I.kept (t':=s.toks) fun b o e=>hx b o (Nat.ne_of_lt (Heap.lt_size e)) e
 exact h pins _ σ H xs _ Q I1 (by simpa using rv) hw
def tAsg (te:TE) (g:TG):TS:=fun D σ H=>te σ H fun x H1=>g x σ H1 D.nx
theorem zmw {i:Nat} {x:Str} {e:Expr} {te:TE} {pos':Pos} (hN:X.N.Nodup) (hi:X.N[i]? = some x) (hx:Loc X.env.scope x) (he:PE X e te) (hs:swapsWith e (some (.Name x pos')) pos.line X.env=pure false:=by rfl) (hf:X.fn x=true∨X.env.scope.names.lookup x=some .local:=by first | exact .inl rfl | exact .inr rfl | assumption) :
  PS X (.Assign [.Name x pos'] e pos) (tAsg te (zm2 i)):=by
 intro pins s σ H D I h
 refine wpAny_Assign_Name (thn (he pins s σ H _ I h) fun v s1 ⟨y,H1,I1,r1,q1⟩=>?_) hs
 exact zgX I1 hN hi hx r1 (fun s2 I2=>⟨_,H1,I2,q1⟩) hf
end
section
variable {X:Cx} {pos:Pos}
def zj4 (c:TT) (tb:TS):TS:=fun D σ H=>∃ W:Nat→St→Hp→Prop,(∃ m,W m σ H)∧∀ m σ H,W m σ H →
 c σ H fun b H1=>if b=true then ∃ N:St→Hp→Prop,(∀ σ' H',N σ' H'→∃ m',m' < m∧W m' σ' H')∧tb { D with nx:=N,ct:=N,bk:=D.nx } σ H1 else D.nx σ H1
theorem zju {c:Expr} {body:List Stmt} {tc:TT} {tb:TS} (hp:PassesOwn (model X.prog X.w) X.A X.env X.xe) (hc:PT X c tc) (hb:PSs X body tb):PS X (.While c body [] pos) (zj4 tc tb):=by
 intro pins s σ H D I h
 obtain ⟨W,⟨m0,w0⟩,turn⟩:=h
 refine wpAny_While (codeAny_whileLoop (fun n s'=>∃ σ' H',Inv X pins σ' H' s'∧W n σ' H') ?_ m0 ⟨σ,H,I,w0⟩)
 rintro n s1 ⟨σ1,H1,I1,w1⟩
 refine wpAny_passesOwn hp (thn (hc pins s1 σ1 H1 _ I1 (turn n σ1 H1 w1)) fun b s2 ⟨H2,I2,q2⟩=>?_)
 cases b with
 | true =>
  obtain ⟨N,hN,q2⟩:=q2
  rw [if_pos rfl]
  refine wpAny_passesOwn hp (thn (hb pins s2 σ1 H2 _ I2 q2) fun f s3 q3=>?_)
  cases f with
  | next =>
   obtain ⟨σ3,H3,I3,n3⟩:=q3
   obtain ⟨m',hm,w3⟩:=hN σ3 H3 n3
   exact ⟨m',hm,σ3,H3,I3,w3⟩
  | cont =>
   obtain ⟨σ3,H3,I3,n3⟩:=q3
   obtain ⟨m',hm,w3⟩:=hN σ3 H3 n3
   exact ⟨m',hm,σ3,H3,I3,w3⟩
  | brk=>exact q3
  | ret v=>exact q3
 | false =>
  rw [if_neg Bool.false_ne_true]
  exact wpAny_execs_nil ⟨σ1,H2,I2,q2⟩
end
structure It where
 go:Nat→Hp→Prop
 yld:Nat→Hp→V→Hp→Prop
 stop:Nat→Hp→Prop
def FpOk (X:Cx) (pins:List (Addr × Obj)) (H:Hp) (b:Addr):Prop :=
 H b=none∧b ≠ X.env.locals∧b ∉ X.fs∧(b ∈ X.ex∨X.s₀.heap.objs.size ≤ b)∧(∀ x c,X.env.cells.lookup x=some c→c ≠ b)∧∀ p ∈ X.pn ++ pins,p.1 ≠ b
theorem Inv.fpOk {X:Cx} {pins:List (Addr × Obj)} {σ:St} {H H':Hp} {s:Shared} {b:Addr} (I:Inv X pins σ H s) (hb:s.heap.objs.size ≤ b) (hn:H' b=none):FpOk X pins H' b:=by
 refine ⟨hn,Nat.ne_of_gt (Nat.lt_of_lt_of_le I.lt hb),I.nofs hb, .inr (Nat.le_trans I.sz hb),fun x c e z=>?_,fun p hp z=>?_⟩
 ·obtain ⟨v,q⟩:=I.cell x c e
  exact absurd (Nat.lt_of_lt_of_le q.lt (by rw [z];exact hb)) (Nat.lt_irrefl _)
 ·exact absurd (Nat.lt_of_lt_of_le (Heap.lt_size (I.pin p hp).1) (by rw [z];exact hb)) (Nat.lt_irrefl _)
structure Turn (P:Program) (w:World) (K:PySem.W.Frag) (tg:Expr) (J:It) (fp:List Addr) (it:Addr) (tn:Nat→Heap→Prop):Prop where
 mem:it ∈ fp
 obj:∀ i h,tn i h→∀ b ∈ fp,∃ o,h.get? b=some o∧∀ v,o.data ≠ .cell v
 keep:∀ i h h',tn i h→(∀ b ∈ fp,∀ o,h.get? b=some o→h'.get? b=some o)→tn i h'
 item:∀ (X:Cx),X.prog=P→X.w=w→X.K=K→X.calm=true→∀ (i:Nat) (pins:List (Addr × Obj)) (s:Shared) (σ:St) (H:Hp) (E:Value→Shared→Prop),Inv X pins σ H s→(∀ b ∈ fp,FpOk X pins H b)→tn i s.heap→J.go i H →
  wpAny (model P w) X.A (pyNext (.ref it)) (fun r s1=>∃ u,r=some u ∧
   wpAny (model P w) X.A (letOwnedTupleGo tg (.ref it) u) (fun _ s2=>∃ x H',Inv X pins σ H' s2∧RelV x u∧J.yld i H x H'∧tn (i + 1) s2.heap∧∀ b ∈ fp,H' b=none) E s1) E s
 done:∀ (X:Cx),X.prog=P→X.w=w→X.K=K→X.calm=true→∀ (i:Nat) (pins:List (Addr × Obj)) (s:Shared) (σ:St) (H:Hp) (E:Value→Shared→Prop),Inv X pins σ H s→(∀ b ∈ fp,FpOk X pins H b)→tn i s.heap→J.stop i H →
  wpAny (model P w) X.A (pyNext (.ref it)) (fun r s1=>r=none∧Inv X pins σ H s1) E s
 self:∀ (A:Around) (i:Nat) (s:Shared) (Q:Value→Shared→Prop) (E:Value→Shared→Prop),tn i s.heap→Q (.ref it) s→wpAny (model P w) A (pyIter (.ref it)) Q E s
abbrev TI:=St→Hp→(It→Hp→Prop)→Prop
def PIE (X:Cx) (pins:List (Addr × Obj)) (σ:St) (tg:Expr) (R:It→Hp→Prop) (itv:Value) (s2:Shared):Prop :=
 ∃ (it:Addr) (fp:List Addr) (tn:Nat→Heap→Prop) (J:It) (H':Hp),itv = .ref it∧Inv X pins σ H' s2∧Turn X.prog X.w X.K tg J fp it tn∧tn 0 s2.heap∧(∀ b ∈ fp,FpOk X pins H' b)∧R J H'
def PI (X:Cx) (tg iter:Expr) (wi:TI):Prop :=
 ∀ (pins:List (Addr × Obj)) (s:Shared) (σ:St) (H:Hp) (R:It→Hp→Prop),Inv X pins σ H s→wi σ H R →
  wpAny (model X.prog X.w) X.A (eval iter X.env) (fun v s1=>wpAny (model X.prog X.w) X.A (pyIter v) (PIE X pins σ tg R) X.xe s1) X.xe s
theorem zji {M:Model} {A:Around} {E:Value→Shared→Prop} {s:Shared} {tg:Expr} {it:Addr} {u:Value} {o:Obj} {n:String} {vs:Array Value} {Q:Unit→Shared→Prop} (ho:s.heap.get? it=some o) (hc:o.cls = .type n) (hd:o.data = .fields vs)
  (hn : ["enumerate", "zip", "dict_itemiterator", "dict_reverseitemiterator", "odict_iterator", "itertools.zip_longest", "itertools.pairwise"].contains n=false) (hQ:Q () s):wpAny M A (letOwnedTupleGo tg (.ref it) u) Q E s:=by
 unfold letOwnedTupleGo
 cases tg <;> first
  | exact wpAny_pure hQ
  | (cases u <;> first
    | exact wpAny_pure hQ
    | (refine wpAny_bind (wpAny_load ho ?_)
       rw [hc,hd]
       show wpAny M A (if (["enumerate", "zip", "dict_itemiterator", "dict_reverseitemiterator", "odict_iterator", "itertools.zip_longest", "itertools.pairwise"].contains n && vs[0]? == some (rawInt _))=true then _ else _) Q E s
       rw [if_neg (by intro h;rw [hn,Bool.false_and] at h;cases h)]
       exact wpAny_pure hQ))
def Itl (K:PySem.W.Frag) (a:Addr):It :=
 ⟨fun i H=>∃ xs x,SqL K H a xs∧xs[i]? = some x,fun i H x H'=>H'=H∧∀ xs,SqL K H a xs→xs[i]? = some x,fun i H=>∃ xs,SqL K H a xs∧xs.length ≤ i⟩
def Itt (K:PySem.W.Frag) (a:Addr):It :=
 ⟨fun i H=>∃ xs x,SqT K H a xs∧xs[i]? = some x,fun i H x H'=>H'=H∧∀ xs,SqT K H a xs→xs[i]? = some x,fun i H=>∃ xs,SqT K H a xs∧xs.length ≤ i⟩
def Itr (lo:Int) (n:Nat):It:=⟨fun i _=>i < n,fun i H x H'=>H'=H∧x = .int (lo + i),fun i _=>n ≤ i⟩
theorem ziL {P:Program} {w:World} {K:PySem.W.Frag} {tg:Expr} (a it:Addr):Turn P w K tg (Itl K a) [it] it (fun i h=>h.IsListIter it a i) where
 mem:=by simp
 obj:=fun i h st b hb=>by
  have e:b=it:=by simpa using hb
  subst e
  obtain ⟨o,e,c,d⟩:=st
  exact ⟨o,e,fun v z=>by rw [d] at z;cases z⟩
 keep:=fun i h h' st k=>st.at fun o e=>k it (by simp) o e
 item:=by
  intro X hP hw hK hc i pins s σ H E I hf st hg
  subst hP hw hK
  obtain ⟨xs,x,hq,hx⟩:=hg
  obtain ⟨its,rv,p,hz⟩:=I.list hq
  obtain ⟨u,hu,ru⟩:=rv.get hx
  obtain ⟨f0,f1,f2,f3,f4,f5⟩:=hf it (by simp)
  refine wpAny_pyNext_list_item st p.isList (x:=u) (by simpa using hu) fun h' st' sb=>?_
  have I1:Inv X pins σ H { s with heap:=h' }:=I.turned (t':=s.toks) (fun b o hb e=>(sb.2 b hb).trans e) f0 f1 f3 f4 f5
  obtain ⟨o,e,c,d⟩:=id st'
  exact ⟨u,rfl,zji (s:={ s with heap:=h' }) e c d (by decide) ⟨x,H,I1,ru,⟨rfl,fun ys hy=>by rw [I.zdz hy hq];exact hx⟩,st',fun b hb=>(hf b hb).1⟩⟩
 done:=by
  intro X hP hw hK hc i pins s σ H E I hf st hg
  subst hP hw hK
  obtain ⟨xs,hq,hx⟩:=hg
  obtain ⟨its,rv,p,hz⟩:=I.list hq
  obtain ⟨f0,f1,f2,f3,f4,f5⟩:=hf it (by simp)
  have hl:=rv.length
  exact wpAny_pyNext_list_end (I.ok.hd hc) st p.isList (by simp;omega) fun h' eb=>⟨rfl,I.turned (t':=s.toks) (fun b o hb e=>eb b o hb e) f0 f1 f3 f4 f5⟩
 self:=fun _ _ _ _ _ st h=>wpAny_pyIter_listiter st h
theorem zhp {P:Program} {w:World} {K:PySem.W.Frag} {tg:Expr} (a it:Addr):Turn P w K tg (Itt K a) [it] it (fun i h=>h.IsTupleIter it a i) where
 mem:=by simp
 obj:=fun i h st b hb=>by
  have e:b=it:=by simpa using hb
  subst e
  obtain ⟨o,e,c,d⟩:=st
  exact ⟨o,e,fun v z=>by rw [d] at z;cases z⟩
 keep:=fun i h h' st k=>st.at fun o e=>k it (by simp) o e
 item:=by
  intro X hP hw hK hc i pins s σ H E I hf st hg
  subst hP hw hK
  obtain ⟨xs,x,hq,hx⟩:=hg
  obtain ⟨its,rv,p,hz⟩:=I.tuple hq
  obtain ⟨u,hu,ru⟩:=rv.get hx
  obtain ⟨f0,f1,f2,f3,f4,f5⟩:=hf it (by simp)
  refine wpAny_pyNext_tuple_item st (show s.heap.IsTuple a its.toArray from p) (x:=u) (by simpa using hu) fun h' st' sb=>?_
  have I1:Inv X pins σ H { s with heap:=h' }:=I.turned (t':=s.toks) (fun b o hb e=>(sb.2 b hb).trans e) f0 f1 f3 f4 f5
  obtain ⟨o,e,c,d⟩:=id st'
  exact ⟨u,rfl,zji (s:={ s with heap:=h' }) e c d (by decide) ⟨x,H,I1,ru,⟨rfl,fun ys hy=>by rw [I.zdX hy hq];exact hx⟩,st',fun b hb=>(hf b hb).1⟩⟩
 done:=by
  intro X hP hw hK hc i pins s σ H E I hf st hg
  subst hP hw hK
  obtain ⟨xs,hq,hx⟩:=hg
  obtain ⟨its,rv,p,hz⟩:=I.tuple hq
  obtain ⟨f0,f1,f2,f3,f4,f5⟩:=hf it (by simp)
  have hl:=rv.length
  exact wpAny_pyNext_tuple_end (I.ok.hd hc) st (show s.heap.IsTuple a its.toArray from p) (by simp;omega) fun h' eb=>⟨rfl,I.turned (t':=s.toks) (fun b o hb e=>eb b o hb e) f0 f1 f3 f4 f5⟩
 self:=fun _ _ _ _ _ st h=>wpAny_pyIter_tupleiter st h
theorem zhd {P:Program} {w:World} {K:PySem.W.Frag} {tg:Expr} (it:Addr) (lo:Int) (n:Nat):Turn P w K tg (Itr lo n) [it] it (fun i h=>IsRangeIter h it (lo + (i:Nat) * 1) ((n:Int) - (i:Nat)) 1) where
 mem:=by simp
 obj:=fun i h st b hb=>by
  have e:b=it:=by simpa using hb
  subst e
  exact ⟨_,st,fun v z=>by
   have z':Data.fields _=Data.cell v:=z
   cases z'⟩
 keep:=fun i h h' st k=>k it (by simp) _ st
 item:=by
  intro X hP hw hK hc i pins s σ H E I hf st hg
  subst hP hw hK
  obtain ⟨f0,f1,f2,f3,f4,f5⟩:=hf it (by simp)
  have W:=Walks.range (prog:=X.prog) (w:=X.w) (I.ok.hd hc) it lo 1 n
  refine W.item i s _ _ hg st fun v h' tk hv st' kk=>?_
  obtain ⟨t,rfl⟩:=hv
  have I1:Inv X pins σ H { s with heap:=h',toks:=tk }:=I.turned (fun b o hb e=>kk b o (by simpa using hb) e) f0 f1 f3 f4 f5
  refine ⟨_,rfl,zji (s:={ s with heap:=h',toks:=tk }) (n := "range_iterator") st' rfl rfl (by decide) ⟨.int (lo + i),H,I1,⟨t,?_⟩,⟨rfl,rfl⟩,st',fun b hb=>(hf b hb).1⟩⟩
  rw [Int.mul_one]
 done:=by
  intro X hP hw hK hc i pins s σ H E I hf st hg
  subst hP hw hK
  obtain ⟨f0,f1,f2,f3,f4,f5⟩:=hf it (by simp)
  exact wpAny_pyNext_range_end (I.ok.hd hc) st (by have:n ≤ i:=hg;omega) fun h' eb=>⟨rfl,I.turned (t':=s.toks) (fun b o hb e=>eb b o hb e) f0 f1 f3 f4 f5⟩
 self:=fun _ _ _ _ _ st h=>wpAny_pyIter_rangeiter st h
end L2
namespace L2
open PySem PySem.Spec PyProof.Rows
section
variable {X:Cx} {tg:Expr}
theorem zgQ {pins:List (Addr × Obj)} {σ:St} {H:Hp} {s:Shared} {R:It→Hp→Prop} {E:Value→Shared→Prop} {lo hi:Int} {t u v:Tok} {tk:Nat} (I:Inv X pins σ H s) (h1 : -(2 ^ 62) ≤ lo) (h2:lo < 2 ^ 62) (h3 : -(2 ^ 62) ≤ hi) (h4:hi < 2 ^ 62)
  (q:R (Itr lo (hi - lo).toNat) H):wpAny (model X.prog X.w) X.A (pyIter (.ref s.heap.objs.size)) (PIE X pins σ tg R) E { s with heap:=s.heap.push { cls := .type "range",data := .fields #[.int lo t, .int hi u, .int 1 v] },toks:=tk }:=by
 refine wpAny_pyIter_range (IsRange.new ..) (small_one h1 h2 h3 h4) ?_
 have I1:Inv X pins σ H { s with heap:=s.heap.push { cls := .type "range",data := .fields #[.int lo t, .int hi u, .int 1 v] },toks:=tk }:=I.kept fun b o e=>Heap.get?_push_of_some _ e
 refine ⟨(s.heap.push { cls := .type "range",data := .fields #[.int lo t, .int hi u, .int 1 v] }).objs.size,[(s.heap.push { cls := .type "range",data := .fields #[.int lo t, .int hi u, .int 1 v] }).objs.size],_,_,H,rfl,
  I1.kept (t':=tk) fun b o e=>Heap.get?_push_of_some _ e,zhd _ lo (hi - lo).toNat,?_,fun b hb=>?_,q⟩
 ·have e1:lo + ((0:Nat):Int) * 1=lo:=by simp
  have e2:(((hi - lo).toNat:Nat):Int) - ((0:Nat):Int)=Builtin.Range.rangeSize lo hi 1:=by rw [rangeSize_one];split <;> omega
  show IsRangeIter _ _ (lo + ((0:Nat):Int) * 1) ((((hi - lo).toNat:Nat):Int) - ((0:Nat):Int)) 1
  rw [e1,e2]
  exact Heap.get?_push_size _ rfl
 ·have e:b=(s.heap.push { cls := .type "range",data := .fields #[.int lo t, .int hi u, .int 1 v] }).objs.size:=by simpa using hb
  subst e
  exact I1.fpOk (Nat.le_refl _) (I1.hok.fresh (Nat.le_refl _))
def znF (ta:TA):TI:=fun σ H R=>ta σ H fun vs H1=>∃ j:Int,vs=[.int j]∧-(2 ^ 62) ≤ j∧j < 2 ^ 62∧R (Itr 0 j.toNat) H1
def zns (ta:TA):TI:=fun σ H R=>ta σ H fun vs H1=>∃ i j:Int,vs=[.int i, .int j]∧(-(2 ^ 62) ≤ i∧i < 2 ^ 62∧-(2 ^ 62) ≤ j∧j < 2 ^ 62)∧R (Itr i (j - i).toNat) H1
theorem zh9 {a:Expr} {ta:TA} {p pos:Pos} (hg:Gl X "range") (hm:X.mg "range" = none) (ha:PA X [a] ta) (hs:starEach [a] X.env=[(false,eval a X.env)]:=by rfl):PI X tg (.Call (.Name "range" p) [a] [] pos) (znF ta):=by
 intro pins s σ H R I h
 refine Call_ (zdn I hg hm boot_range (PyProof.Rows.callWith_type1 (thn (ha pos pins s σ H _ I h) fun us s1 ⟨vs,H1,I1,r1,q1⟩=>?_) hs rfl))
 obtain ⟨j,e,q1,q2,q⟩:=q1
 subst e
 cases r1 with
 | cons r rr =>
  cases rr
  obtain ⟨t,rfl⟩:=r
  exact call_range_1 (zgQ I1 (by omega) (by omega) q1 q2 (by simpa using q))
theorem zhM {a b:Expr} {ta:TA} {p pos:Pos} (hg:Gl X "range") (hm:X.mg "range" = none) (ha:PA X [a,b] ta) (hs:starEach [a,b] X.env=[(false,eval a X.env),(false,eval b X.env)]:=by rfl) (hs2:starEach [b] X.env=[(false,eval b X.env)]:=by rfl) :
  PI X tg (.Call (.Name "range" p) [a,b] [] pos) (zns ta):=by
 intro pins s σ H R I h
 refine Call_ (zdn I hg hm boot_range (PyProof.Rows.callWith_type1 (thn (ha pos pins s σ H _ I h) fun us s1 ⟨vs,H1,I1,r1,q1⟩=>?_) (by rw [hs,hs2]) (by rw [hs2];rfl)))
 obtain ⟨i,j,e,⟨q1,q2,q3,q4⟩,q⟩:=q1
 subst e
 cases r1 with
 | cons r rr =>
  cases rr with
  | cons r' rr =>
   cases rr
   obtain ⟨t,rfl⟩:=r
   obtain ⟨t',rfl⟩:=r'
   exact call_range_2 (zgQ I1 q1 q2 q3 q4 q)
def tFor (wi:TI) (g:TG) (tb:TS):TS:=fun D σ H=>wi σ H fun J H1=>∃ W:Nat→Nat→St→Hp→Prop,(∃ m,W 0 m σ H1)∧∀ i m σ H,W i m σ H →
 (J.stop i H∧D.nx σ H)∨(J.go i H∧∃ N:St→Hp→Prop,(∀ σ' H',N σ' H'→∃ m',m' < m∧W (i + 1) m' σ' H')∧∀ x H',J.yld i H x H'→g x σ H' fun σ2 H2=>tb { D with nx:=N,ct:=N,bk:=D.nx } σ2 H2)
def zeY (fp:List Addr) (h:Heap):List (Addr × Obj):=fp.filterMap fun b=>(h.get? b).map fun o=>(b,o)
theorem zcB {fp:List Addr} {h:Heap} {b:Addr} {o:Obj} (hb:b ∈ fp) (e:h.get? b=some o):(b,o) ∈ zeY fp h:=List.mem_filterMap.mpr ⟨b,hb,by rw [e];rfl⟩
theorem ziw {fp:List Addr} {h:Heap} {p:Addr × Obj} (hp:p ∈ zeY fp h):p.1 ∈ fp∧h.get? p.1=some p.2:=by
 obtain ⟨b,hb,e⟩:=List.mem_filterMap.mp hp
 cases q:h.get? b with
 | none=>rw [q] at e;cases e
 | some o =>
  rw [q] at e
  have e':(b,o)=p:=Option.some.inj e
  subst e'
  exact ⟨hb,q⟩
theorem Inv.pinned {pins:List (Addr × Obj)} {σ:St} {H:Hp} {s:Shared} {fp:List Addr} (I:Inv X pins σ H s) (hf:∀ b ∈ fp,FpOk X pins H b) (ho:∀ b ∈ fp,∃ o,s.heap.get? b=some o∧∀ v,o.data ≠ .cell v):Inv X (pins ++ zeY fp s.heap) σ H s :=
 I.zfY fun p hp=>(List.mem_append.mp hp).elim (fun z=>I.pin p (List.mem_append_right _ z)) fun z=>by
  obtain ⟨hb,e⟩:=ziw z
  obtain ⟨f0,f1,f2,_⟩:=hf p.1 hb
  obtain ⟨o,e',d⟩:=ho p.1 hb
  rw [e] at e';cases e'
  exact ⟨e,f0,f1,f2,d⟩
theorem Inv.zdC {pins pl:List (Addr × Obj)} {σ:St} {H:Hp} {s:Shared} (I:Inv X (pins ++ pl) σ H s):Inv X pins σ H s:=I.zfY fun p hp=>I.pin p (List.mem_append_right _ (List.mem_append_left _ hp))
theorem zl6 {iter:Expr} {body:List Stmt} {wi:TI} {g:TG} {tb:TS} {pos:Pos} (hp:PassesOwn (model X.prog X.w) X.A X.env X.xe) (hc:X.calm=true) (hi:PI X tg iter wi) (hg:PG X tg g) (hb:PSs X body tb)
  (hs:∀ x,foldedSetIterable iter X.env x=pure x:=by intro _;rfl):PS X (.For tg iter body [] pos) (tFor wi g tb):=by
 intro pins s σ H D I h
 refine wpAny_For (thn (hi pins s σ H _ I h) fun v s1 h1=>thn h1 fun itv s2 h2=>?_) hs
 obtain ⟨it,fp,tn,J,H2,e,I2,T,st2,f2,W,⟨m0,w0⟩,turn⟩:=h2
 subst e
 have stat:∀ {H':Hp},(∀ b ∈ fp,H' b=none)→∀ b ∈ fp,FpOk X pins H' b:=fun hn b hb=>⟨hn b hb,(f2 b hb).2⟩
 refine codeAny_forLoop_any (fun n s'=>∃ i σ' H',Inv X pins σ' H' s'∧tn i s'.heap∧(∀ b ∈ fp,H' b=none)∧W i n σ' H') ?_ m0 ⟨0,σ,H2,I2,st2,fun b hb=>(f2 b hb).1,w0⟩
 rintro n s3 ⟨i,σ3,H3,I3,st3,fr3,w3⟩
 rcases turn i n σ3 H3 w3 with ⟨stop,qn⟩ | ⟨go,N,hN,step⟩
 ·refine wpAny_passesOwn hp (thn (T.done X rfl rfl rfl hc i pins s3 σ3 H3 X.xe I3 (stat fr3) st3 stop) fun r s4 ⟨hr,I4⟩=>?_)
  subst hr
  exact wpAny_execs_nil ⟨σ3,H3,I4,qn⟩
 ·refine wpAny_passesOwn hp (thn (T.item X rfl rfl rfl hc i pins s3 σ3 H3 X.xe I3 (stat fr3) st3 go) fun r s4 ⟨u,hr,h4⟩=>?_)
  subst hr
  refine wpAny_passesOwn hp (thn h4 fun _ s5 ⟨x,H5,I5,r5,y5,st5,fr5⟩=>?_)
  have I5':=I5.pinned (stat fr5) (T.obj _ _ st5)
  refine wpAny_passesOwn hp (thn (hg _ s5 σ3 H5 x u _ I5' r5 (step x H5 y5)) fun _ s6 ⟨σ6,H6,I6,q6⟩=>?_)
  refine wpAny_passesOwn hp (thn (hb _ s6 σ6 H6 _ I6 q6) fun f s7 q7=>?_)
  have again:∀ {σ7:St} {H7:Hp},Inv X (pins ++ zeY fp s5.heap) σ7 H7 s7→N σ7 H7→∃ m,m < n∧∃ i σ' H',Inv X pins σ' H' s7∧tn i s7.heap∧(∀ b ∈ fp,H' b=none)∧W i m σ' H':=fun {σ7 H7} I7 n7=>by
   obtain ⟨m',hm,w7⟩:=hN σ7 H7 n7
   refine ⟨m',hm,i + 1,σ7,H7,I7.zdC,T.keep _ _ _ st5 fun b hb o e=>(I7.pin (b,o) (List.mem_append_right _ (List.mem_append_right _ (zcB hb e)))).1,fun b hb=>?_,w7⟩
   obtain ⟨o,e,d⟩:=T.obj _ _ st5 b hb
   exact (I7.pin (b,o) (List.mem_append_right _ (List.mem_append_right _ (zcB hb e)))).2.1
  cases f with
  | next=>obtain ⟨σ7,H7,I7,n7⟩:=q7;exact again I7 n7
  | cont=>obtain ⟨σ7,H7,I7,n7⟩:=q7;exact again I7 n7
  | brk=>obtain ⟨σ7,H7,I7,q7⟩:=q7;exact ⟨σ7,H7,I7.zdC,q7⟩
  | ret v=>obtain ⟨x7,σ7,H7,I7,r7,q7⟩:=q7;exact ⟨x7,σ7,H7,I7.zdC,r7,q7⟩
end
end L2
namespace L2
open PySem PySem.Spec PyProof.Rows
abbrev R2:=V→V→Hp→VK→Prop
def OpR (X:Cx) (f:Value→Value→Sem Value) (r:R2):Prop :=
 ∀ (pins:List (Addr × Obj)) (s:Shared) (σ:St) (H:Hp) (x y:V) (v u:Value) (Q:VK),Inv X pins σ H s→RelV x v→RelV y u→r x y H Q →
  wpAny (model X.prog X.w) X.A (f v u) (EP X pins σ Q) X.xe s
def UnR (X:Cx) (f:Value→Sem Value) (r:V→Hp→VK→Prop):Prop :=
 ∀ (pins:List (Addr × Obj)) (s:Shared) (σ:St) (H:Hp) (x:V) (v:Value) (Q:VK),Inv X pins σ H s→RelV x v→r x H Q →
  wpAny (model X.prog X.w) X.A (f v) (EP X pins σ Q) X.xe s
def zcm (X:Cx) (f:Value) (r:List V→Hp→VK→Prop):Prop :=
 ∀ (pins:List (Addr × Obj)) (s:Shared) (σ:St) (H:Hp) (xs:List V) (us:List Value) (Q:VK),Inv X pins σ H s→Vals xs us→r xs H Q →
  wpAny (model X.prog X.w) X.A (call f us) (EP X pins σ Q) X.xe s
def tOp (r:R2) (ta tb:TE):TE:=fun σ H Q=>ta σ H fun x H1=>tb σ H1 fun y H2=>r x y H2 Q
def tUn (r:V→Hp→VK→Prop) (ta:TE):TE:=fun σ H Q=>ta σ H fun x H1=>r x H1 Q
def rI (C:Int→Int→Prop) (g:Int→Int→V):R2:=fun x y H Q=>∃ i j,x = .int i∧y = .int j∧C i j∧Q (g i j) H
def rI0 (g:Int→Int→V):R2:=fun x y H Q=>∃ i j,x = .int i∧y = .int j∧Q (g i j) H
def rU (g:Int→V):V→Hp→VK→Prop:=fun x H Q=>∃ i,x = .int i∧Q (g i) H
section
variable {X:Cx} {a b c:Expr} {ta tb tc:TE} {pos:Pos}
theorem binT (ha:PE X a ta) (hb:PE X b tb) {pins:List (Addr × Obj)} {s:Shared} {σ:St} {H:Hp} {R:V→V→Hp→Prop} (I:Inv X pins σ H s)
  (h:ta σ H fun x H1=>tb σ H1 fun y H2=>R x y H2) {Q:Value→Shared→Prop} {f:Value→Value→Sem Value}
  (hf:∀ v u s2 x y H2,Inv X pins σ H2 s2→RelV x v→RelV y u→R x y H2→wpAny (model X.prog X.w) X.A (f v u) Q X.xe s2) :
  wpAny (model X.prog X.w) X.A (eval a X.env) (fun v s₁=>wpAny (model X.prog X.w) X.A (eval b X.env) (fun u s₂=>wpAny (model X.prog X.w) X.A (f v u) Q X.xe s₂) X.xe s₁) X.xe s:=by
 refine thn (ha pins s σ H _ I h) fun v s1 ⟨x,H1,I1,r1,q1⟩=>?_
 refine thn (hb pins s1 σ H1 _ I1 q1) fun u s2 ⟨y,H2,I2,r2,q2⟩=>?_
 exact hf v u s2 x y H2 I2 r1 r2 q2
theorem znj {op:Operator} {r:R2} (ho:OpR X (binaryOp op) r) (ha:PE X a ta) (hb:PE X b tb):PE X (.BinOp a op b pos) (tOp r ta tb):=by
 intro pins s σ H Q I h
 exact wpAny_BinOp (binT ha hb I h fun v u s2 x y H2 I2 rx ry q=>ho pins s2 σ H2 x y v u Q I2 rx ry q)
theorem zn0 {op:UnaryOp} {r:V→Hp→VK→Prop} (ho:UnR X (unaryOp op) r) (ha:PE X a ta):PE X (.UnaryOp op a pos) (tUn r ta):=by
 intro pins s σ H Q I h
 exact UnaryOp_ (thn (ha pins s σ H _ I h) fun v s1 ⟨x,H1,I1,r1,q1⟩=>ho pins s1 σ H1 x v Q I1 r1 q1)
theorem opI {f:Value→Value→Sem Value} {C:Int→Int→Prop} {g:Int→Int→Int}
  (rule:∀ (i j:Int) (t u:Tok) (s:Shared) (Q:Value→Shared→Prop) (E:Value→Shared→Prop),C i j→Q (.int (g i j) s.toks) { s with toks:=s.toks + 1 }→wpAny (model X.prog X.w) X.A (f (.int i t) (.int j u)) Q E s) :
  OpR X f (rI C fun i j => .int (g i j)):=by
 intro pins s σ H x y v u Q I rx ry h
 obtain ⟨i,j,rfl,rfl,hc,q⟩:=h
 obtain ⟨t,rfl⟩:=rx
 obtain ⟨t',rfl⟩:=ry
 exact rule i j t t' s _ _ hc ⟨.int (g i j),H,I.tok _,⟨_,rfl⟩,q⟩
theorem opI0 {f:Value→Value→Sem Value} {g:Int→Int→Int}
  (rule:∀ (i j:Int) (t u:Tok) (s:Shared) (Q:Value→Shared→Prop) (E:Value→Shared→Prop),Q (.int (g i j) s.toks) { s with toks:=s.toks + 1 }→wpAny (model X.prog X.w) X.A (f (.int i t) (.int j u)) Q E s) :
  OpR X f (rI0 fun i j => .int (g i j)):=by
 intro pins s σ H x y v u Q I rx ry h
 obtain ⟨i,j,rfl,rfl,q⟩:=h
 obtain ⟨t,rfl⟩:=rx
 obtain ⟨t',rfl⟩:=ry
 exact rule i j t t' s _ _ ⟨.int (g i j),H,I.tok _,⟨_,rfl⟩,q⟩
theorem opB0 {f:Value→Value→Sem Value} {g:Int→Int→Bool}
  (rule:∀ (i j:Int) (t u:Tok) (s:Shared) (Q:Value→Shared→Prop) (E:Value→Shared→Prop),Q (.bool (g i j)) s→wpAny (model X.prog X.w) X.A (f (.int i t) (.int j u)) Q E s) :
  OpR X f (rI0 fun i j => .bl (g i j)):=by
 intro pins s σ H x y v u Q I rx ry h
 obtain ⟨i,j,rfl,rfl,q⟩:=h
 obtain ⟨t,rfl⟩:=rx
 obtain ⟨t',rfl⟩:=ry
 exact rule i j t t' s _ _ ⟨.bl (g i j),H,I,rfl,q⟩
def CDiv (i j:Int):Prop:=0 < j∧j < 1073741824
def CPow (i j:Int):Prop:=0 ≤ j∧j ≤ 1000000∧i.natAbs < 2 ^ 64
def CMul (i j:Int):Prop:=(-(2 ^ 64) < i∧i < 2 ^ 64)∨(-(2 ^ 64) < j∧j < 2 ^ 64)
theorem CMul.ok {i j:Int} (h:CMul i j):IntMulOk i j:=by
 rcases h with ⟨h1,h2⟩ | ⟨h1,h2⟩
 ·exact .of_left (intBits_le_64 h1 h2)
 ·exact .of_right (intBits_le_64 h1 h2)
theorem zl0:OpR X (binaryOp .Add) (rI0 fun i j => .int (i + j)):=opI0 fun _ _ _ _ _ _ _ q=>add_int q
theorem zmP:OpR X (binaryOp .Sub) (rI0 fun i j => .int (i - j)):=opI0 fun _ _ _ _ _ _ _ q=>sub_int q
theorem zms:OpR X (binaryOp .Mult) (rI CMul fun i j => .int (i * j)):=opI fun _ _ _ _ _ _ _ hc q=>mul_int q hc.ok
theorem zkh:OpR X (binaryOp .FloorDiv) (rI CDiv fun i j => .int (i / j)):=opI fun i j _ _ _ _ _ hc q=>by
 have h1:(0:Int) < j:=hc.1
 have h2:j < 1073741824:=hc.2
 exact floordiv_int (by omega) (by rw [Int.fdiv_eq_ediv_of_nonneg i (by omega)];exact q) (.inl (PyProof.noPylong_small (by omega)))
theorem zmH:OpR X (binaryOp .Mod) (rI (fun _ j=>0 < j) fun i j => .int (i % j)):=opI fun i j _ _ _ _ _ hc q=>by
 have h1:(0:Int) < j:=hc
 exact mod_int' (by omega) (by rw [Int.fmod_eq_emod_of_nonneg i (by omega)];exact q)
theorem zmQ:OpR X (binaryOp .Pow) (rI CPow fun i j => .int (i ^ j.toNat)):=opI fun _ _ _ _ _ _ _ hc q=>pow_int_small hc.1 hc.2.1 hc.2.2 q
theorem unI {f:Value→Sem Value} {g:Int→Int}
  (rule:∀ (i:Int) (t:Tok) (s:Shared) (Q:Value→Shared→Prop) (E:Value→Shared→Prop),Q (.int (g i) s.toks) { s with toks:=s.toks + 1 }→wpAny (model X.prog X.w) X.A (f (.int i t)) Q E s) :
  UnR X f (rU fun i => .int (g i)):=by
 intro pins s σ H x v Q I rx h
 obtain ⟨i,rfl,q⟩:=h
 obtain ⟨t,rfl⟩:=rx
 exact rule i t s _ _ ⟨.int (g i),H,I.tok _,⟨_,rfl⟩,q⟩
theorem zl3:UnR X (unaryOp .USub) (rU fun i => .int (-i)):=unI fun _ _ _ _ _ q=>neg_int q
end
section
variable {X:Cx} {a b c:Expr} {ta tb tc:TE} {pos:Pos}
theorem zmg {pins:List (Addr × Obj)} {σ:St} {H:Hp} {s:Shared} {Q:VK} {k k':Bool} (I:Inv X pins σ H s) (q:Q (.bl k) H) (e:k=k'):EP X pins σ Q (.bool k') s:=by
 subst e
 exact ⟨.bl k,H,I,rfl,q⟩
theorem znC:OpR X (compareOp .Lt) (rI0 fun i j => .bl (decide (i < j))):=opB0 fun _ _ _ _ _ _ _ q=>lt_int q
theorem znp:OpR X (compareOp .Gt) (rI0 fun i j => .bl (decide (j < i))):=opB0 fun _ _ _ _ _ _ _ q=>gt_int q
theorem znJ:OpR X (compareOp .GtE) (rI0 fun i j => .bl (decide (j ≤ i))):=opB0 fun _ _ _ _ _ _ _ q=>ge_int q
theorem ziK:OpR X (compareOp .In) (fun x y H Q=>∃ i j,x = .str i∧y = .str j∧Q (.bl (!(Builtin.Str.occurrences j i 0 j.length 1).isEmpty)) H):=by
 intro pins s σ H x y v u Q I rx ry h
 obtain ⟨i,j,rfl,rfl,q⟩:=h
 obtain ⟨t,rfl⟩:=rx
 obtain ⟨t',rfl⟩:=ry
 exact in_str (zmg I q rfl)
theorem OpR.or {f:Value→Value→Sem Value} {r r':R2} (h:OpR X f r) (h':OpR X f r'):OpR X f (fun x y H Q=>r x y H Q∨r' x y H Q):=by
 intro pins s σ H x y v u Q I rx ry q
 rcases q with q | q
 ·exact h pins s σ H x y v u Q I rx ry q
 ·exact h' pins s σ H x y v u Q I rx ry q
theorem zbM (b:Expr) {op:CmpOp} (h:op ≠ .In:=by decide) (h2:op ≠ .NotIn:=by decide):behindInMarks op b=false:=by
 have e1:(op == CmpOp.In)=false:=by cases op <;> first | rfl | exact absurd rfl h
 have e2:(op == CmpOp.NotIn)=false:=by cases op <;> first | rfl | exact absurd rfl h2
 cases b <;> simp [behindInMarks,e1,e2]
theorem zlt {op:CmpOp} {r:R2} (ho:OpR X (compareOp op) r) (ha:PE X a ta) (hb:PE X b tb) (hm:behindInMarks op b=false):PE X (.Compare a [op] [b] pos) (tOp r ta tb):=by
 intro pins s σ H Q I h
 exact wpAny_Compare1 (binT ha hb I h fun v u s2 x y H2 I2 rx ry q=>ho pins s2 σ H2 x y v u Q I2 rx ry q) hm
def zmn (t:TE):TT:=fun σ H Q=>t σ H fun x H'=>∃ k,x = .bl k∧Q k H'
theorem zkx {op:CmpOp} {r:R2} (ho:OpR X (compareOp op) r) (ha:PE X a ta) (hb:PE X b tb) (hm:behindInMarks op b=false):PT X (.Compare a [op] [b] pos) (zmn (tOp r ta tb)):=by
 intro pins s σ H Q I h
 refine wpAny_isTrue_Compare1 (thn (ha pins s σ H _ I h) fun v s1 ⟨x,H1,I1,r1,q1⟩=>thn (hb pins s1 σ H1 _ I1 q1) fun u s2 ⟨y,H2,I2,r2,q2⟩ =>
  thn (ho pins s2 σ H2 x y v u _ I2 r1 r2 q2) fun c s3 ⟨z,H3,I3,r3,k,e,q3⟩=>?_) hm
 subst e
 cases r3
 exact wpAny_truthy_bool ⟨H3,I3,q3⟩
theorem zeX:(sizeLine:Nat) < 2 ^ 63:=by rw [sizeLine_eq];decide
theorem zhm:OpR X (binaryOp .Add) (fun x y H Q=>∃ i j,x = .str i∧y = .str j∧i.length + j.length ≤ sizeLine∧Q (.str (i ++ j)) H):=by
 intro pins s σ H x y v u Q I rx ry h
 obtain ⟨i,j,rfl,rfl,hz,q⟩:=h
 obtain ⟨t,rfl⟩:=rx
 obtain ⟨t',rfl⟩:=ry
 exact add_str (fun t' tk=>⟨.str (i ++ j),H,I.tok _,⟨_,rfl⟩,q⟩) hz
theorem vals1 {x:V} {us:List Value} (r:Vals [x] us):∃ u,us=[u]∧RelV x u:=by
 cases r with
 | cons r1 r2=>cases r2;exact ⟨_,rfl,r1⟩
theorem vals2 {x y:V} {us:List Value} (r:Vals [x,y] us):∃ u w',us=[u,w']∧RelV x u∧RelV y w':=by
 cases r with
 | cons r1 r2 =>
  cases r2 with
  | cons r3 r4=>cases r4;exact ⟨_,_,rfl,r1,r3⟩
theorem zhK (hc:X.calm=true):zcm X (.builtin "max") (fun xs H Q=>∃ i j,xs=[.int i, .int j]∧Q (.int (if j > i then j else i)) H):=by
 intro pins s σ H xs us Q I r h
 obtain ⟨i,j,rfl,q⟩:=h
 obtain ⟨u,w',rfl,⟨t,rfl⟩,⟨t',rfl⟩⟩:=vals2 r
 refine max_two_ints (I.ok.hd hc) fun h' tk k=>⟨_,H,I.kept k,?_,q⟩
 by_cases hj:j > i
 ·rw [if_pos hj,if_pos hj];exact ⟨_,rfl⟩
 ·rw [if_neg hj,if_neg hj];exact ⟨_,rfl⟩
theorem ziF (hc:X.calm=true):zcm X (.builtin "min") (fun xs H Q=>∃ i j,xs=[.int i, .int j]∧Q (.int (if j < i then j else i)) H):=by
 intro pins s σ H xs us Q I r h
 obtain ⟨i,j,rfl,q⟩:=h
 obtain ⟨u,w',rfl,⟨t,rfl⟩,⟨t',rfl⟩⟩:=vals2 r
 refine min_two_ints (I.ok.hd hc) fun h' tk k=>⟨_,H,I.kept k,?_,q⟩
 by_cases hj:j < i
 ·rw [if_pos hj,if_pos hj];exact ⟨_,rfl⟩
 ·rw [if_neg hj,if_neg hj];exact ⟨_,rfl⟩
theorem zh4:zcm X (.type "int") (fun xs H Q=>(∃ i,xs=[.int i]∧Q (.int i) H)∨∃ k,xs=[.bl k]∧Q (.int (if k then 1 else 0)) H):=by
 intro pins s σ H xs us Q I r h
 rcases h with ⟨i,rfl,q⟩ | ⟨k,rfl,q⟩
 ·obtain ⟨u,rfl,t,rfl⟩:=vals1 r
  exact call_int_int ⟨.int i,H,I,⟨_,rfl⟩,q⟩
 ·obtain ⟨u,rfl,r1⟩:=vals1 r
  cases r1
  exact call_int_bool ⟨.int (if k then 1 else 0),H,I.tok _,⟨_,rfl⟩,q⟩
theorem zfF:zcm X (.type "str") (fun xs H Q=>∃ i,xs=[.int i]∧i.natAbs.log2 < 1920∧Q (.str (toString i)) H):=by
 intro pins s σ H xs us Q I r h
 obtain ⟨i,rfl,hz,q⟩:=h
 obtain ⟨u,rfl,t,rfl⟩:=vals1 r
 exact PySem.P.str_of_int hz ⟨.str _,H,I.tok _,⟨_,rfl⟩,q⟩
end
end L2
namespace L2
open PySem PySem.Spec PyProof.Rows
structure ObjM (h:Heap) (x dx C:Addr) (mA:Str→Option Value):Prop where
 obj:h.get? x=some (PySem.W.instObj C dx)
 ns:h.Ns1 dx mA
 ne:dx ≠ x
theorem zhO {h:Heap} {dx:Addr} {mA:Str→Option Value} (n:h.Ns1 dx mA):∃ od,h.get? dx=some od∧∀ name,PySem.W.lookIn name od=some (mA name):=by
 obtain ⟨o,es,ep,ho,hd,hk,_,hm⟩:=n
 refine ⟨o,ho,fun name=>?_⟩
 have e:=hm name
 unfold nsFind findBy at e
 rw [← Array.find?_toList] at e
 unfold PySem.W.lookIn
 rw [hd]
 dsimp only
 split
 ·rename_i y q
  rw [q] at e
  exact congrArg some e
 ·rename_i q
  rw [q] at e
  have a:es.toList.any (·.refKey)=false:=by
   rw [List.any_eq_false]
   intro y hy
   obtain ⟨z,t,hkey⟩:=hk y (Array.mem_toList_iff.mp hy)
   simp [DictEntry.refKey,hkey]
  have a':¬ es.toList.any (·.refKey)=true:=by rw [a];exact Bool.false_ne_true
  rw [if_neg a']
  exact congrArg some e
theorem ObjM.look {h:Heap} {x dx C:Addr} {mA:Str→Option Value} (I:ObjM h x dx C mA):∃ od,PySem.W.InstAt h x (PySem.W.instObj C dx) C (some od)∧∀ name,PySem.W.lookIn name od=some (mA name) :=
 let ⟨od,ho,hl⟩:=zhO I.ns
 ⟨od,⟨I.obj,rfl,rfl,ho⟩,hl⟩
section
variable {prog:Program} {w:World} {A:Around} {E:Value→Shared→Prop} {s:Shared} {K:PySem.W.Frag} {x dx C f:Addr} {mA:Str→Option Value} {name:Str} {v:Value}
end
section
variable {P:Program} {w:World} {H H':Hp} {h h':Heap} {a C dx:Addr} {fs fs':List (Str × V)}
theorem zlr (hok:HOk P w H h) (e:H a=some (.ins C dx fs)):∃ mA,ObjM h a dx C mA∧(∀ f,RelO (fs.lookup f) (mA f))∧PySem.Within mA (fs.map (·.1))∧fs.length ≤ 1000∧H dx=some (.own a):=by
 obtain ⟨d,z,ne,ob,mA,n,r,q⟩:=(show zbB P w H h a (.ins C dx fs) from hok a _ e)
 exact ⟨mA,⟨ob,n,ne⟩,r,q,z,d⟩
end
structure Cls (K:PySem.W.Frag) (C:Addr):Prop where
 pg:PySem.W.plainGet K C Str.empty=true
 hd:PySem.W.hasDictIn K C=true
 po:PySem.W.plainOver K C=true
 sa:PySem.W.findIn K (.ref C) "__setattr__" = some (some (.builtin "object.__setattr__"))
theorem Cls.get {K:PySem.W.Frag} {C:Addr} (c:Cls K C) (f:Str):PySem.W.plainGet K C f=true:=c.pg
structure Con (K:PySem.W.Frag) (C:Addr) (f:Str) (v:V) (u:Value):Prop where
 at_:PySem.W.findIn K (.ref C) f=some (some u)
 rel:RelV v u
 get:PySem.W.specialIn K u "__get__" = some none
 cp:PySem.W.copiedNames.contains f=false
structure Meth (K:PySem.W.Frag) (C:Addr) (m:Str) (f:Addr):Prop where
 at_:PySem.W.findIn K (.ref C) m=some (some (.ref f))
 fn:PySem.W.isFn K (.ref f)=true
 kp:PySem.W.keepIn K (.ref f)=true
section
variable {X:Cx} {pins:List (Addr × Obj)} {σ:St} {H:Hp} {s:Shared} {a C dx:Addr} {fs:List (Str × V)} {f:Str} {v:V} {A:Around} {E:Value→Shared→Prop}
theorem Inv.made (I:Inv X pins σ H s):Inv X pins σ (upd (upd H s.heap.objs.size (.own (s.heap.objs.size + 1))) (s.heap.objs.size + 1) (.ins C s.heap.objs.size []))
  { s with heap:=(s.heap.push PySem.W.emptyDict).push (PySem.W.instObj C s.heap.objs.size) }:=by
 have e1:(s.heap.push PySem.W.emptyDict).get? s.heap.objs.size=some PySem.W.emptyDict:=Heap.get?_push_size s.heap rfl
 have e2:((s.heap.push PySem.W.emptyDict).push (PySem.W.instObj C s.heap.objs.size)).get? (s.heap.objs.size + 1)=some (PySem.W.instObj C s.heap.objs.size):=by
  have:=Heap.get?_push_size (s.heap.push PySem.W.emptyDict) (o:=PySem.W.instObj C s.heap.objs.size) rfl
  rwa [Heap.size_push] at this
 have e3:(s.heap.push PySem.W.emptyDict).Ns s.heap.objs.size (fun _=>none):=⟨PySem.W.emptyDict,#[],_,e1,rfl,(fun e he=>absurd he (by simp)),fun _=>rfl⟩
 have I1:=I.laid (a:=s.heap.objs.size) (o := .own (s.heap.objs.size + 1)) (h':=s.heap.push PySem.W.emptyDict) (t':=s.toks) (fun b u q=>Heap.get?_push_of_some _ q) (Nat.le_refl _) ⟨_,e1⟩
 refine I1.laid (a:=s.heap.objs.size + 1) (o := .ins C s.heap.objs.size []) (t':=s.toks) (fun b u q=>Heap.get?_push_of_some _ q) (Nat.le_of_eq (Heap.size_push _ _)) ?_
 have ne:s.heap.objs.size ≠ s.heap.objs.size + 1:=Nat.ne_of_lt (Nat.lt_succ_self _)
 refine ⟨by rw [zah ne,zas],Nat.zero_le _,ne,e2,fun _=>none,(Heap.Ns1.of_empty e3).at fun o q=>Heap.get?_push_of_some _ q,fun _=>True.intro,fun y hy=>absurd rfl hy⟩
end
section
variable {X:Cx} {o e value:Expr} {f:Str} {pos pos' tpos:Pos} {ta tv:TE}
end
section
variable {X:Cx} {pins:List (Addr × Obj)} {σ:St} {H:Hp} {s:Shared} {A:Around} {E:Value→Shared→Prop} {Q:Value→Shared→Prop} {c:Value} {b:Bool}
inductive TyOf (K:PySem.W.Frag) (H:Hp):V→Value→Prop where
 | non:TyOf K H .non (.type "NoneType")
 | bl (x:Bool):TyOf K H (.bl x) (.type "bool")
 | int (i:Int):TyOf K H (.int i) (.type "int")
 | str (x:Str):TyOf K H (.str x) (.type "str")
 | flt (x:UInt64):TyOf K H (.flt x) (.type "float")
 | lst {a:Addr} {xs:List V} (e:H a=some (.lst xs)):TyOf K H (.ref a) (.type "list")
 | frz {a:Addr} {o:Obj} {xs:List V} (e:H a=some (.frz o (.lst xs))):TyOf K H (.ref a) (.type "list")
 | tup {a:Addr} {xs:List V} (e:H a=some (.tup xs)):TyOf K H (.ref a) (.type "tuple")
 | dK {a:Addr} {kvs:List (Key × V)} (e:H a=some (.dK kvs)):TyOf K H (.ref a) (.type "dict")
 | dT {a:Addr} {kvs:List (List Key × V)} (e:H a=some (.dT kvs)):TyOf K H (.ref a) (.type "dict")
 | ins {a C dx:Addr} {fs:List (Str × V)} (e:H a=some (.ins C dx fs)) (cl:Cls K C) (ha:PySem.W.findIn K (.ref C) "__class__" = some (some (.builtin "object.__class__")))
   (hn:PySem.W.specialIn K (.builtin "object.__class__") "__get__" = some (some (.builtin "getset_descriptor.__get__"))) (htk:PySem.W.takesIn K (.builtin "object.__class__")=some true)
   (hm:PySem.W.mroIn K C (.type "object")=some true):TyOf K H (.ref a) (.ref C)
theorem ziu {x:V} {u t:Value} (I:Inv X pins σ H s) (rx:RelV x u) (ty:TyOf X.K H x t) (e:PySem.W.kitOne X.K t c=some b) (h:∀ tk,Q (.bool b) { s with toks:=tk }) :
  wpAny (model X.prog X.w) A (call (.builtin "isinstance") [u,c]) Q E s:=by
 cases ty with
 | non=>cases (show u=Value.none from rx);exact PySem.W.kia_one PySem.W.kitx_none I.kIn True.intro e (fun z=>nomatch z) h
 | bl y=>cases (show u=Value.bool y from rx);exact PySem.W.kia_one PySem.W.kitx_bool I.kIn True.intro e (fun z=>nomatch z) h
 | int i=>obtain ⟨t,q⟩:=(show ∃ t,u=Value.int i t from rx);cases q;exact PySem.W.kia_one PySem.W.kitx_int I.kIn True.intro e (fun z=>nomatch z) h
 | str y=>obtain ⟨t,q⟩:=(show ∃ t,u=Value.str y t from rx);cases q;exact PySem.W.kia_one PySem.W.kitx_str I.kIn True.intro e (fun z=>nomatch z) h
 | flt y=>obtain ⟨t,q⟩:=(show ∃ t,u=Value.float y t from rx);cases q;exact PySem.W.kia_one PySem.W.kitx_float I.kIn True.intro e (fun z=>nomatch z) h
 | @lst a xs ea =>
  cases (show u=Value.ref a from rx)
  obtain ⟨_,_,n,_,h1⟩:=(show zbB X.prog X.w H s.heap a (.lst xs) from I.hok a _ ea)
  exact PySem.W.kia_one PySem.W.kitx_list I.kIn ⟨_,h1,rfl⟩ e (fun z=>nomatch z) h
 | @frz a ob xs ea =>
  cases (show u=Value.ref a from rx)
  obtain ⟨_,_,_,n,_,h1⟩:=(show zbB X.prog X.w H s.heap a (.frz ob (.lst xs)) from I.hok a _ ea)
  exact PySem.W.kia_one PySem.W.kitx_list I.kIn ⟨_,h1,rfl⟩ e (fun z=>nomatch z) h
 | @tup a xs ea =>
  cases (show u=Value.ref a from rx)
  obtain ⟨_,_,_,p⟩:=(show zbB X.prog X.w H s.heap a (.tup xs) from I.hok a _ ea)
  obtain ⟨o,h1,h2,_⟩:=p
  exact PySem.W.kia_one PySem.W.kitx_tuple I.kIn ⟨o,h1,h2⟩ e (fun z=>nomatch z) h
 | @dK a kvs ea =>
  cases (show u=Value.ref a from rx)
  obtain ⟨_,_,vs,_,p⟩:=(show zbB X.prog X.w H s.heap a (.dK kvs) from I.hok a _ ea)
  obtain ⟨o,es,ep,h1,h2,_⟩:=p
  exact PySem.W.kia_one PySem.W.kitx_dict I.kIn ⟨o,h1,h2.1⟩ e (fun z=>nomatch z) h
 | @dT a kvs ea =>
  cases (show u=Value.ref a from rx)
  obtain ⟨_,_,xs,_,o,es,ep,h1,h2,_⟩:=(show zbB X.prog X.w H s.heap a (.dT kvs) from I.hok a _ ea)
  exact PySem.W.kia_one PySem.W.kitx_dict I.kIn ⟨o,h1,h2.1⟩ e (fun z=>nomatch z) h
 | @ins a C dx fs ea cl ha hn htk hm =>
  cases (show u=Value.ref a from rx)
  obtain ⟨mA,O,_⟩:=zlr I.hok ea
  obtain ⟨od,J,_⟩:=O.look
  exact PySem.W.kia_one (PySem.W.kitx_own (cl.get _) cl.hd ha hn htk hm) I.kIn J e (fun z=>nomatch z) h
end
end L2
namespace L2
open PySem PySem.Spec PyProof.Rows
structure Room (k:Nat) (A:Around):Prop where
 hd:A.handled=none
 dp:A.depth + 3 * k + 5 < recursionLimit
 un:A.units + 16 * k + 200 < cLine
theorem Room.mono {j k:Nat} {A:Around} (r:Room k A) (h:j ≤ k):Room j A:=⟨r.hd,by have:=r.dp;omega,by have:=r.un;omega⟩
theorem Room.deeper {k:Nat} {A:Around} (r:Room (k + 1) A) (env:Env):Room k (A.deeper env) :=
 ⟨r.hd,by have:=r.dp;show A.depth + 1 + 3 * k + 5 < _;omega,by have:=r.un;show A.units + 3 + 16 * k + 200 < _;omega⟩
theorem zhk {A:Around} {C:Addr} {us:List Value} {kw:List (Str × Value)}:(A.under (.builtin "type.__call__" ⟨.ref C :: us,kw⟩)).depth=A.depth + 1:=by
 first | rfl | simp [Around.under,Code.weight,Code.isCreation,Code.isGuard,Code.isCaller,Code.frames,Code.isFrame,guardIds]
theorem zhj {A:Around} {C:Addr} {us:List Value} {kw:List (Str × Value)}:(A.under (.builtin "type.__call__" ⟨.ref C :: us,kw⟩)).units=A.units + 1:=by
 first | rfl | simp [Around.under,Code.cUnits,Code.frames,Code.isFrame]
theorem Room.make {k:Nat} {A:Around} (r:Room (k + 1) A) (C:Addr) (us:List Value) (kw:List (Str × Value)):Room k (A.under (.builtin "type.__call__" ⟨.ref C :: us,kw⟩)) :=
 ⟨r.hd,by have:=r.dp;rw [zhk];omega,by have:=r.un;rw [zhj];omega⟩
theorem Room.depth {k:Nat} {A:Around} (r:Room k A):A.depth < recursionLimit:=by have:=r.dp;omega
theorem Room.units {k:Nat} {A:Around} (r:Room k A):A.units + 64 < cLine:=by have:=r.un;omega
def tNil:TA:=fun _ H Q=>Q [] H
def znM (ta:TE) (tr:TA):TA:=fun σ H Q=>ta σ H fun x H1=>tr σ H1 fun xs H2=>Q (x :: xs) H2
section
variable {X:Cx} {e:Expr} {es:List Expr} {te:TE} {t:TA} {pos:Pos}
theorem zgm:PA X [] tNil:=fun _ _ _ _ H Q I h=>Calls.spliced_nil ⟨[],H,I, .nil,h⟩
theorem zdQ (ha:PE X e te) (hr:PA X es t) (hs:starEach (e :: es) X.env=(false,eval e X.env) :: starEach es X.env:=by rfl):PA X (e :: es) (znM te t):=by
 intro pos pins s σ H Q I h
 rw [hs]
 show wpAny _ _ (spliced ((false,eval e X.env) :: backTo pos (starEach es X.env))) _ _ s
 refine Calls.spliced_cons (thn (ha pins s σ H _ I h) fun u s1 ⟨x,H1,I1,r1,q1⟩=>?_)
 exact thn (hr pos pins s1 σ H1 _ I1 q1) fun us s2 ⟨xs,H2,I2,r2,q2⟩=>⟨x :: xs,H2,I2, .cons r1 r2,q2⟩
def tTup (t:TA):TE:=fun σ H Q=>t σ H fun xs H1=>xs.length ≤ sizeLine∧∀ p,H1 p=none→Q (.ref p) (upd H1 p (.tup xs))
def tLst (t:TA):TE:=fun σ H Q=>t σ H fun xs H1=>xs.length ≤ sizeLine∧∀ p,H1 p=none→Q (.ref p) (upd H1 p (.lst xs))
theorem zmj {x1} (h:PA X es t):PE X (.Tuple es x1 pos) (tTup t):=by
 intro pins s σ H Q I hq
 refine wpAny_Tuple_spliced (thn (h pos pins s σ H _ I hq) fun us s1 ⟨xs,H1,I1,r,z,q⟩=>⟨by rw [← r.length];exact z,?_⟩)
 have hf:H1 s1.heap.objs.size=none:=I1.hok.fresh (Nat.le_refl _)
 refine ⟨.ref s1.heap.objs.size,upd H1 s1.heap.objs.size (.tup xs),I1.laid (t':=s1.toks) (fun b u e=>Heap.get?_push_of_some _ e) (Nat.le_refl _) ?_,rfl,q _ hf⟩
 exact ⟨z,us,r,⟨_,Heap.get?_push_size _ rfl,rfl,_,rfl⟩⟩
theorem zlJ (h:PA X es t):PE X (.List es pos) (tLst t):=by
 intro pins s σ H Q I hq
 refine wpAny_List_spliced (thn (h pos pins s σ H _ I hq) fun us s1 ⟨xs,H1,I1,r,z,q⟩=>⟨by rw [← r.length];exact z,?_⟩)
 have hf:H1 s1.heap.objs.size=none:=I1.hok.fresh (Nat.le_refl _)
 refine ⟨.ref s1.heap.objs.size,upd H1 s1.heap.objs.size (.lst xs),I1.laid (t':=s1.toks) (fun b u e=>Heap.get?_push_of_some _ e) (Nat.le_refl _) ?_,rfl,q _ hf⟩
 exact ⟨z,us,0,r,Heap.get?_push_size _ rfl⟩
end
abbrev Sp:=List V→Hp→VK→XK→Prop
abbrev CXT:=List Env→Hp→Shared→XK→Value→Shared→Prop
structure Env0 (P:Program) (w:World) (K:PySem.W.Frag) (mg:Str→Option Value) (base:Heap) (A:Around) (outer:List Env) (s:Shared) (H:Hp):Prop where
 frames:A.frames=some outer
 mod:Mod K mg base
 bs:∀ b o,base.get? b=some o→s.heap.get? b=some o∧H b=none
 bsz:base.objs.size ≤ s.heap.objs.size
 funs:s.heap.FunFrames base outer
 frf:∀ b ∈ frs outer,H b=none
 hok:HOk P w H s.heap
 bare:AllBare s.gens
def CE (outer:List Env) (P:Program) (w:World) (H:Hp) (s:Shared) (Q:VK) (u:Value) (s':Shared):Prop :=
 ∃ v H',s'.os=s.os∧AllBare s'.gens∧Un (frs outer) [] H H' s.heap s'.heap∧HOk P w H' s'.heap∧RelV v u∧Q v H'
def CR (CX:CXT) (outer:List Env) (P:Program) (w:World) (H:Hp) (s:Shared) (Q:VK) (E:XK) (r:Result) (s':Shared):Prop :=
 match r with
 | .ok (.ret u)=>CE outer P w H s Q u s'
 | .ok _=>False
 | .error e=>CX outer H s E e s'
structure FnOk (P:Program) (w:World) (K:PySem.W.Frag) (mg:Str→Option Value) (base:Heap) (CX:CXT) (k:Nat) (f:Addr) (fd:FuncData) (ps:List Str) (sp:Sp):Prop where
 len:∀ vs H Q E,sp vs H Q E→vs.length=ps.length
 run:∀ (A:Around) (outer:List Env) (s:Shared) (H:Hp) (args:Args) (us:List Value) (vs:List V) (Q:VK) (E:XK),Room k A→Env0 P w K mg base A outer s H→BindsTo s fd args (ps.zip us)→Vals vs us→sp vs H Q E →
  codeAny (model P w) A (.call (.ref f) args) (CR CX outer P w H s Q E) s
theorem FnOk.mono {P:Program} {w:World} {K:PySem.W.Frag} {mg:Str→Option Value} {base:Heap} {CX:CXT} {j k:Nat} {f:Addr} {fd:FuncData} {ps:List Str} {sp:Sp} (F:FnOk P w K mg base CX j f fd ps sp) (h:j ≤ k) :
  FnOk P w K mg base CX k f fd ps sp:=⟨F.len,fun A outer s H args us vs Q E hr=>F.run A outer s H args us vs Q E (hr.mono h)⟩
theorem FnOk.imp {P:Program} {w:World} {K:PySem.W.Frag} {mg:Str→Option Value} {base:Heap} {CX:CXT} {k:Nat} {f:Addr} {fd:FuncData} {ps:List Str} {sp sp':Sp} (F:FnOk P w K mg base CX k f fd ps sp)
  (h:∀ vs H Q E,sp' vs H Q E→sp vs H Q E):FnOk P w K mg base CX k f fd ps sp' :=
 ⟨fun vs H Q E q=>F.len vs H Q E (h _ _ _ _ q),fun A outer s H args us vs Q E hr he hb hv hs=>F.run A outer s H args us vs Q E hr he hb hv (h _ _ _ _ hs)⟩
theorem Env0.make {P:Program} {w:World} {K:PySem.W.Frag} {mg:Str→Option Value} {base:Heap} {A:Around} {outer:List Env} {s:Shared} {H:Hp} (e:Env0 P w K mg base A outer s H) (C:Addr) (us:List Value) (kw:List (Str × Value)) :
  Env0 P w K mg base (A.under (.builtin "type.__call__" ⟨.ref C :: us,kw⟩)) outer s H:=⟨by first | exact e.frames | (simpa [Around.under,Code.envs,Code.isFrame,pushEnvs] using e.frames),e.mod,e.bs,e.bsz,e.funs,e.frf,e.hok,e.bare⟩
section
variable {X:Cx} {pins:List (Addr × Obj)} {σ:St} {H:Hp} {s s':Shared}
theorem Inv.env0 (I:Inv X pins σ H s):Env0 X.prog X.w X.K X.mg X.base X.A X.stack s H :=
 ⟨I.ok.frames,I.ok.mod,I.bs,Nat.le_trans I.ok.bsz I.sz,I.stack,I.zgl,I.hok,I.bare⟩
theorem Inv.after {Q:VK} {u:Value} (I:Inv X pins σ H s) (h:CE X.stack X.prog X.w H s Q u s'):EP X pins σ Q u s':=by
 obtain ⟨v,H',os,bare,un,hok,r,q⟩:=h
 obtain ⟨hh,g,d,t,os'⟩:=s'
 obtain rfl:os'=s.os:=os
 exact ⟨v,H',I.call (h':=hh) (g':=g) (d':=d) (t':=t) (ch:=[]) un hok bare (fun b z=>absurd z (by simp)),r,q⟩
end
def zmb (sp:Sp) (dvs:List V) (E:XK) (t:TA):TE:=fun σ H Q=>t σ H fun vs H1=>sp (vs ++ dvs) H1 Q E
def Binds (K:PySem.W.Frag) (fd:FuncData) (ps:List Str) (ds:List Value):Prop :=
 ∀ (s:Shared) (us:List Value),K.In s.heap→(us ++ ds).length=ps.length→BindsTo s fd ⟨us,[]⟩ (ps.zip (us ++ ds))
theorem Binds.all {K:PySem.W.Frag} {fd:FuncData} {ps:List Str} (h:∀ us:List Value,us.length=ps.length→bindArgs fd ⟨us,[]⟩ = pure (ps.zip us)):Binds K fd ps []:=fun s us _ hl=>by
 rw [List.append_nil] at hl ⊢
 exact .of_eq (h us hl)
def Passes (CX:CXT) (X:Cx) (E:XK):Prop:=∀ (pins:List (Addr × Obj)) (σ:St) (H:Hp) (s:Shared) (e:Value) (s':Shared),Inv X pins σ H s→CX X.stack H s E e s'→X.xe e s'
section
variable {X:Cx} {CX:CXT} {k:Nat} {f C:Addr} {fd:FuncData} {ps:List Str} {sp:Sp} {dvs:List V} {ds:List Value} {E:XK} {x m:Str} {p pos apos:Pos} {e o:Expr} {es:List Expr} {ta:TE} {t:TA}
theorem zma {pins:List (Addr × Obj)} {σ:St} {H:Hp} {s:Shared} {Q:VK} {us:List Value} {vs:List V} (F:FnOk X.prog X.w X.K X.mg X.base CX k f fd ps sp) (hr:Room k X.A) (hb:Binds X.K fd ps ds) (hd:Vals dvs ds) (hx:Passes CX X E)
  (I:Inv X pins σ H s) (r:Vals vs us) (h:sp (vs ++ dvs) H Q E):wpAny (model X.prog X.w) X.A (call (.ref f) us) (EP X pins σ Q) X.xe s:=by
 have r2:Vals (vs ++ dvs) (us ++ ds):=r.append hd
 have hl:(us ++ ds).length=ps.length:=by rw [← r2.length];exact F.len _ _ _ _ h
 refine wpAny_call (codeAny_mono (F.run X.A X.stack s H ⟨us,[]⟩ (us ++ ds) (vs ++ dvs) Q E hr I.env0 (hb s us I.kIn hl) r2 h) fun r s' hq=>?_)
 cases r with
 | error e=>exact hx pins σ H s e s' I hq
 | ok fl =>
  cases fl with
  | ret u=>exact I.after hq
  | next=>exact False.elim hq
  | brk=>exact False.elim hq
  | cont=>exact False.elim hq
theorem zk2 (F:FnOk X.prog X.w X.K X.mg X.base CX k f fd ps sp) (hr:Room k X.A) (hg:Gl X x) (hm:X.mg x=some (.ref f)) (hk:PySem.W.keepIn X.K (.ref f)=true) (hb:Binds X.K fd ps ds) (hd:Vals dvs ds) (hx:Passes CX X E)
  (ha:PA X (e :: es) t) (hdb:(x == ("__debug__" : Str))=false:=by decide) (he:starEach (e :: es) X.env=(false,eval e X.env) :: starEach es X.env:=by rfl) (hpl:(backTo pos (starEach es X.env)).any (·.1)=false:=by rfl) :
  PE X (.Call (.Name x p) (e :: es) [] pos) (zmb sp dvs E t):=by
 intro pins s σ H Q I h
 refine wpAny_Call_Name_kw (zgg I hg hm ?_ hdb)
 refine PySem.W.callWith_K (h₀:=X.base) I.ok.mod.kin hk (thn (ha pos pins s σ H _ I h) fun us s1 ⟨vs,H1,I1,r,q⟩=>⟨I1.kIn,?_⟩) he hpl
 exact zma F hr hb hd hx I1 r q
structure Mk (K:PySem.W.Frag) (C f:Addr):Prop where
 makes:PySem.W.makesIn K C=true
 init:PySem.W.findIn K (.ref C) "__init__" = some (some (.ref f))
 fn:PySem.W.isFn K (.ref f)=true
 kp:PySem.W.keepIn K (.ref C)=true
end
section
variable {X:Cx} {CX:CXT} {k:Nat} {f C:Addr} {fd:FuncData} {ps ks:List Str} {sp:Sp} {E:XK} {x m:Str} {p pos apos kpos:Pos} {e o:Expr} {es:List Expr} {kws:List Keyword} {te ta:TE} {t tk:TA} {nm:Option Str}
structure zn3 (K:PySem.W.Frag) (fd:FuncData) (ps ks:List Str) (g:List Value→List Value→List Value) (gV:List V→List V→List V):Prop where
 to:∀ (s:Shared) (us ws:List Value),K.In s.heap→(g us ws).length=ps.length→BindsTo s fd ⟨us,ks.zip ws⟩ (ps.zip (g us ws))
 rel:∀ {vs:List V} {us:List Value} {zs:List V} {ws:List Value},Vals vs us→Vals zs ws→Vals (gV vs zs) (g us ws)
variable {g:List Value→List Value→List Value} {gV:List V→List V→List V}
end
structure zao (N P:List Str) (sc:Scope):Prop where
 kind:sc.kind = .function
 co:sc.isCoroutine=false
 gen:sc.isGenerator=false
 nd:N.Nodup
 pre:N.take P.length=P
 par:∀ x ∈ P,sc.names.lookup x=some .local∨sc.names.lookup x=some .cell
 nofree:∀ y ∈ sc.names,y.2 ≠ .free
theorem zfm {kindOf:Str→Option NameKind} {x:Str}:∀ {binds:List (Str × Value)} {m:Str→Option Value},(∀ v,(x,v) ∉ binds)→bindL kindOf binds m x=m x
 | [],_,_=>rfl
 | (n,v) :: r,m,h=>by
  unfold bindL
  rw [zfm fun w hw=>h w (List.mem_cons_of_mem _ hw)]
  split
  ·have:x ≠ n:=by rintro rfl;exact h v List.mem_cons_self
   simp [this]
  ·rfl
theorem zeL {kindOf:Str→Option NameKind} {x:Str}:∀ {binds:List (Str × Value)} {m:Str→Option Value},(∀ v,(x,v) ∉ binds)→bindC kindOf binds m x=m x
 | [],_,_=>rfl
 | (n,v) :: r,m,h=>by
  unfold bindC
  rw [zeL fun w hw=>h w (List.mem_cons_of_mem _ hw)]
  split
  ·rfl
  ·have:x ≠ n:=by rintro rfl;exact h v List.mem_cons_self
   simp [this]
theorem zfp {kindOf:Str→Option NameKind} {x:Str} {v:Value}:∀ {P:List Str} {vs:List Value} {i:Nat} {m:Str→Option Value},P.Nodup→P[i]? = some x→vs[i]? = some v→kindOf x=some .local →
  bindL kindOf (P.zip vs) m x=some v
 | [],_,_,_,_,h,_,_=>by simp at h
 | _ :: _,[],_,_,_,_,h,_=>by simp at h
 | p :: P,w :: vs,0,m,nd,h1,h2,hk=>by
  simp at h1 h2;subst h1;subst h2
  show bindL kindOf ((p,w) :: P.zip vs) m p=_
  unfold bindL
  rw [zfm fun v hv=>(List.nodup_cons.mp nd).1 (List.of_mem_zip hv).1,if_pos hk]
  simp
 | p :: P,w :: vs,i + 1,m,nd,h1,h2,hk=>by
  show bindL kindOf ((p,w) :: P.zip vs) m x=_
  unfold bindL
  exact zfp (i:=i) (List.nodup_cons.mp nd).2 (by simpa using h1) (by simpa using h2) hk
theorem zeV {kindOf:Str→Option NameKind} {x:Str} {v:Value}:∀ {P:List Str} {vs:List Value} {i:Nat} {m:Str→Option Value},P.Nodup→P[i]? = some x→vs[i]? = some v→kindOf x ≠ some .local →
  bindC kindOf (P.zip vs) m x=some v
 | [],_,_,_,_,h,_,_=>by simp at h
 | _ :: _,[],_,_,_,_,h,_=>by simp at h
 | p :: P,w :: vs,0,m,nd,h1,h2,hk=>by
  simp at h1 h2;subst h1;subst h2
  show bindC kindOf ((p,w) :: P.zip vs) m p=_
  unfold bindC
  rw [zeL fun v hv=>(List.nodup_cons.mp nd).1 (List.of_mem_zip hv).1,if_neg hk]
  simp
 | p :: P,w :: vs,i + 1,m,nd,h1,h2,hk=>by
  show bindC kindOf ((p,w) :: P.zip vs) m x=_
  unfold bindC
  exact zeV (i:=i) (List.nodup_cons.mp nd).2 (by simpa using h1) (by simpa using h2) hk
def start (N:List Str) (vs:List V):St:=vs.map some ++ List.replicate (N.length - vs.length) none
def cxOf (CX:CXT) (P:Program) (w:World) (K:PySem.W.Frag) (mg:Str→Option Value) (base:Heap) (N:List Str) (qual:Str) (scope:Scope) (f:Addr) (cd:Value) (A:Around) (outer:List Env) (s:Shared) (H:Hp) (E:XK):Cx where
 prog:=P
 w:=w
 K:=K
 mg:=mg
 base:=base
 A:=A.deeper (envOfC qual scope s.heap.objs.size f cd)
 N:=N
 s₀:=s
 H₀:=H
 env:=envOfC qual scope s.heap.objs.size f cd
 outer:=outer
 stack:=envOfC qual scope s.heap.objs.size f cd :: outer
 ex:=[]
 calm:=true
 fn:=fun _=>true
 pn:=[]
 xe:=fun e s'=>wpAny (model P w) (A.deeper (envOfC qual scope s.heap.objs.size f cd)) (leaving (envOfC qual scope s.heap.objs.size f cd) e) (fun _ s''=>CX outer H s E e s'') (fun e' s''=>CX outer H s E e' s'') s'
theorem zgU {sc:Scope} {n:Nat} {x:Str} (h:sc.names.lookup x=some .cell):∃ c,(cellsFrom n sc.names []).lookup x=some c:=by
 have q:=PySem.W.cellsFrom_some sc.names n [] (.inl h)
 exact Option.isSome_iff_exists.mp q
theorem zdF {CX:CXT} {P:Program} {w:World} {K:PySem.W.Frag} {mg:Str→Option Value} {base:Heap} {N ps:List Str} {qual:Str} {scope:Scope} {f:Addr} {cd:Value} {A:Around} {outer:List Env} {s s1:Shared} {H:Hp} {E:XK} {us:List Value} {vs:List V}
  (S:zao N ps scope) (hd:A.handled=none) (e0:Env0 P w K mg base A outer s H) (hl:vs.length=ps.length) (r:Vals vs us)
  (x:InCallC s s.heap.objs.size (bindL (envOfC qual scope s.heap.objs.size f cd).kindOf (ps.zip us) fun _=>none) (cellsFrom (s.heap.objs.size + 1) scope.names []) (bindC (envOfC qual scope s.heap.objs.size f cd).kindOf (ps.zip us) fun _=>none) s1) :
  Inv (cxOf CX P w K mg base N qual scope f cd A outer s H E) [] (start N vs) H s1:=by
 have hpl:ps.length ≤ N.length:=by have:=congrArg List.length S.pre;rw [List.length_take] at this;omega
 obtain ⟨h1,tk,rfl,hk⟩:=x.done
 have noA:∀ b:Addr,b ∉ (cxOf CX P w K mg base N qual scope f cd A outer s H E).ex:=fun b z=>absurd (show b ∈ ([] : List Addr) from z) (by simp)
 refine ⟨⟨e0.mod,S.kind,rfl,rfl,Nat.le_refl _,fun y z c h1 h2=>?_,fun y hy=>?_,fun y c _ h=>?_,fun _=>hd,Around.frames_deeper e0.frames, .inr ⟨rfl,rfl⟩,fun b z=>absurd z (noA b),e0.bs,e0.bsz,fun b _ _=>noA b,fun b z=>absurd z (noA b),e0.funs,e0.frf⟩,
  rfl,e0.bare,Un.kept hk,⟨_,x.toInCall.ns,fun i y v h1 h2 h3=>?_⟩,fun y c h=>⟨_,x.cell y c h⟩,e0.hok.fresh (Nat.le_refl _),fun y c h=>?_,fun p hp=>absurd (show p ∈ ([] : List (Addr × Obj)) from hp) (by simp),e0.hok.kept hk,?_⟩
 ·exact name_of_addr x.apart (PySem.mem_of_lookup h1) (PySem.mem_of_lookup h2)
 ·have hy:scope.names.lookup y=some .cell∨scope.names.lookup y=some .free:=hy
  rcases hy with hy | hy
  ·exact zgU hy
  ·exact absurd rfl (S.nofree _ (PySem.mem_of_lookup hy))
 ·exact Nat.le_of_lt (x.above y c (PySem.mem_of_lookup h))
 ·have hi:i < vs.length:=by
   unfold start at h2
   by_cases hi:i < vs.length
   ·exact hi
   ·rw [List.getElem?_append_right (by simpa using hi)] at h2
    rw [List.getElem?_replicate] at h2
    split at h2 <;> cases h2
  have ha:vs[i]? = some v:=by
   unfold start at h2
   rw [List.getElem?_append_left (by simpa using hi),List.getElem?_map] at h2
   cases e:vs[i]? with
   | none=>rw [e] at h2;cases h2
   | some a=>rw [e] at h2;cases h2;rfl
  obtain ⟨u,hu,rv⟩:=r.get ha
  have hp:ps[i]? = some y:=by
   rw [← S.pre,List.getElem?_take_of_lt (by omega)];exact h1
  have ndP:ps.Nodup:=by rw [← S.pre];exact S.nd.sublist (List.take_sublist _ _)
  refine ⟨u,rv,?_⟩
  rcases S.par y (List.mem_of_getElem? hp) with k | k
  ·exact .inl ⟨k,zfp ndP hp hu k⟩
  ·obtain ⟨c,e⟩:=zgU (n:=s.heap.objs.size + 1) k
   refine .inr ⟨.inl k,c,e,?_⟩
   have q:=x.cell y c e
   rw [zeV ndP hp hu (by show scope.names.lookup y ≠ _;rw [k];decide)] at q
   exact q
 ·exact e0.hok.fresh (Nat.le_of_lt (x.above y c (PySem.mem_of_lookup h)))
 ·unfold start
  show _=N.length
  rw [List.length_append,List.length_map,List.length_replicate]
  omega
theorem zi7 {CX:CXT} {P:Program} {w:World} {K:PySem.W.Frag} {mg:Str→Option Value} {base:Heap} {k:Nat} {f:Addr} {name qual:Str} {params:Arguments} {body:List Stmt} {scope:Scope} {dV kV doc pm cdv ct oc:Value} {an od:Option Addr}
  {osl:Array (Option Value)} {N ps:List Str} {sp:Sp} (lk:K.lookup f=some ⟨oc,od, .func (PySem.W.fnOf name qual params body scope dV kV doc pm an cdv ct),osl⟩) (hcd:PySem.W.codeIn K cdv qual=true) (S:zao N ps scope)
  (len:∀ vs H Q E,sp vs H Q E→vs.length=ps.length)
  (hbody:∀ (A:Around) (outer:List Env) (s:Shared) (H:Hp) (vs:List V) (Q:VK) (E:XK),Room k (A.deeper (envOfC qual scope s.heap.objs.size f cdv))→sp vs H Q E →
   ∃ t,PSs (cxOf CX P w K mg base N qual scope f cdv A outer s H E) body t∧t { nx:=fun _ H'=>Q .non H',rt:=Q } (start N vs) H) :
  FnOk P w K mg base CX (k + 1) f (PySem.W.fnOf name qual params body scope dV kV doc pm an cdv ct) ps sp:=by
 refine ⟨len,fun A outer s H args us vs Q E hr e0 hb r hsp=>?_⟩
 have hl:=len _ _ _ _ hsp
 have KX:K.In s.heap:=e0.mod.kin.keeps fun b o e=>(e0.bs b o e).1
 have lim:s.heap.NoLimit:=e0.mod.nolimit.keeps fun b o e=>(e0.bs b o e).1
 have hkind:∀ y ∈ ps.zip us,scope.names.lookup y.1=some .local∨(scope.names.lookup y.1=some .cell∧((cellsFrom (s.heap.objs.size + 1) scope.names []).lookup y.1).isSome=true):=fun ⟨n,v⟩ hy=>by
  rcases S.par n (List.of_mem_zip hy).1 with q | q
  ·exact .inl q
  ·exact .inr ⟨q,PySem.W.cellsFrom_some _ _ _ (.inl q)⟩
 refine codeAny_call_function hr.depth (KX _ _ lk) rfl S.co S.gen rfl (PySem.W.codeRec_of KX hcd) (hb _ _ _ _ ?_)
 refine wpAny_newFunctionEnv_cells S.kind hkind fun env he s1 x=>?_
 subst he
 refine ⟨lim.keeps x.toInCall.keep,codeAny_func ?_⟩
 obtain ⟨t,ht,hq⟩:=hbody A outer s H vs Q E (hr.deeper _) hsp
 have I:Inv (cxOf CX P w K mg base N qual scope f cdv A outer s H E) [] (start N vs) H s1:=zdF S hr.hd e0 hl r x
 refine wpAny_mono (ht [] s1 (start N vs) H _ I hq) (fun fl s' hs=>?_) fun e s' hs=>hs
 have fin:∀ {σ':St} {H':Hp} {v:V} {u:Value},Inv (cxOf CX P w K mg base N qual scope f cdv A outer s H E) [] σ' H' s'→RelV v u→Q v H'→CE outer P w H s Q u s' :=
  fun {σ' H' v u} J rv q=>⟨v,H',J.os,J.bare,J.base,J.hok,rv,q⟩
 cases fl with
 | ret u =>
  obtain ⟨v,σ',H',J,rv,q⟩:=hs
  exact fin J rv q
 | next =>
  obtain ⟨σ',H',J,q⟩:=hs
  exact fin (v:=V.non) (u:=Value.none) J rfl q
 | brk =>
  obtain ⟨_,_,_,q⟩:=hs
  exact False.elim q
 | cont =>
  obtain ⟨_,_,_,q⟩:=hs
  exact False.elim q
end L2
namespace L2
open PySem PySem.Spec PyProof.Rows
section
variable {X:Cx} {x:Str} {p pos:Pos} {e:Expr} {es:List Expr} {t:TA} {id T:String} {r:List V→Hp→VK→Prop}
def tCB (r:List V→Hp→VK→Prop) (t:TA):TE:=fun σ H Q=>t σ H fun vs H1=>r vs H1 Q
theorem zi4 (hc:zcm X (.builtin id) r) (hg:Gl X x) (hm:X.mg x=none) (hv:bootBuiltins x=some (.builtin id)) (ha:PA X (e :: es) t) (hn:x ≠ "__name__":=by decide) (hdb:(x == ("__debug__" : Str))=false:=by decide)
  (he:starEach (e :: es) X.env=(false,eval e X.env) :: starEach es X.env:=by rfl) (hpl:(backTo pos (starEach es X.env)).any (·.1)=false:=by rfl):PE X (.Call (.Name x p) (e :: es) [] pos) (tCB r t):=by
 intro pins s σ H Q I h
 refine wpAny_Call_Name_kw (zdn I hg hm hv ?_ hn hdb)
 exact PyProof.Rows.callWith_builtin1 (thn (ha pos pins s σ H _ I h) fun us s1 ⟨vs,H1,I1,r1,q1⟩=>hc pins s1 σ H1 vs us Q I1 r1 q1) he hpl
theorem zhT (hc:zcm X (.type T) r) (hg:Gl X x) (hm:X.mg x=none) (hv:bootBuiltins x=some (.type T)) (ha:PA X (e :: es) t) (hn:x ≠ "__name__":=by decide) (hdb:(x == ("__debug__" : Str))=false:=by decide)
  (he:starEach (e :: es) X.env=(false,eval e X.env) :: starEach es X.env:=by rfl) (hpl:(backTo pos (starEach es X.env)).any (·.1)=false:=by rfl):PE X (.Call (.Name x p) (e :: es) [] pos) (tCB r t):=by
 intro pins s σ H Q I h
 refine wpAny_Call_Name_kw (zdn I hg hm hv ?_ hn hdb)
 exact PyProof.Rows.callWith_type1 (thn (ha pos pins s σ H _ I h) fun us s1 ⟨vs,H1,I1,r1,q1⟩=>hc pins s1 σ H1 vs us Q I1 r1 q1) he hpl
end
end L2
namespace HT
open PySem PyProof.Rows
section
open PySem.SeqAt
open PySem.AutoSeq1 (wpAny_loadPart')
open PySem.MeetsSeq PySem.MeetsSeq2 PySem.MeetsSeq3
end
section
variable {prog:Program} {w:World} {A:Around} {E:Value→Shared→Prop} {s:Shared}
theorem zkL {t b:Addr} {vs ws:List Value} {Q:Value→Shared→Prop} (ht:IsTup s.heap t vs.toArray) (hb:IsTup s.heap b ws.toArray) (hv:vs ≠ [])
  (h1:ws=[]→Q (.ref t) s) (h2:ws ≠ []→Q (.ref s.heap.objs.size) { s with heap:=s.heap.push { cls := .type "tuple",data := .seq (vs ++ ws).toArray } })
  (hsz:vs.length + ws.length ≤ sizeLine):wpAny (model prog w) A (binaryOp .Add (.ref t) (.ref b)) Q E s:=by
 obtain ⟨⟨cls,dd,data,sl⟩,ho,hc,n,hd⟩:=id ht
 obtain ⟨⟨cls2,dd2,data2,sl2⟩,ho2,hc2,n2,hd2⟩:=id hb
 simp only at hc hd hc2 hd2
 subst hc hd hc2 hd2
 have e:vs.toArray ++ ws.toArray=(vs ++ ws).toArray:=by simp
 by_cases hw:ws=[]
 ·exact concat_meets ⟨_,ho,rfl⟩ ⟨_,ho2,rfl⟩ noFill_tuple_add seq_tuple_add PySem.F.slot_tuple_add PySem.F.entry_tuple_add (PySem.F.args_tuple_add_2 _ _)
   (tuple_addW1 t b vs.toArray ws.toArray n n2 dd dd2 sl sl2 (by simpa using hv) (by simp [hw])) ⟨ho,ho2,h1 hw⟩
 ·refine concat_meets ⟨_,ho,rfl⟩ ⟨_,ho2,rfl⟩ noFill_tuple_add seq_tuple_add PySem.F.slot_tuple_add PySem.F.entry_tuple_add (PySem.F.args_tuple_add_2 _ _)
   (tuple_addW2 t b vs.toArray ws.toArray n n2 dd dd2 sl sl2 (by simpa using hv) (by simpa using hw) (by rw [List.size_toArray,List.size_toArray];exact hsz)) ⟨ho,ho2,?_⟩
  rw [e]
  exact h2 hw
def sIx (n d:Nat):Option Int→Nat
 | none=>d
 | some v=>if v < 0 then (v + (n:Int)).toNat else min v.toNat n
theorem zk1 (n d k:Nat):sIx n d (some (k:Int))=min k n:=by
 show (if (k:Int) < 0 then ((k:Int) + (n:Int)).toNat else min (k:Int).toNat n)=min k n
 rw [if_neg (by omega),Int.toNat_natCast]
theorem zlU (n d:Nat) (hd:d ≤ n) (o:Option Int):sIx n d o ≤ n:=by
 cases o with
 | none=>exact hd
 | some v =>
  show (if v < 0 then (v + (n:Int)).toNat else min v.toNat n) ≤ n
  by_cases hv:v < 0
  ·rw [if_pos hv];omega
  ·rw [if_neg hv];exact Nat.min_le_right _ _
theorem zhF (v:Int) (n d:Nat):(if v < 0 then max (v + (n:Int)) 0 else min v (n:Int))=((sIx n d (some v):Nat):Int):=by
 show (if v < 0 then max (v + (n:Int)) 0 else min v (n:Int))=(((if v < 0 then (v + (n:Int)).toNat else min v.toNat n):Nat):Int)
 by_cases hv:v < 0
 ·simp only [if_pos hv];omega
 ·simp only [if_neg hv];omega
theorem zg1 (lo hi:Option Int) (n:Nat):Builtin.Slice.sliceAdjust lo hi 1 (n:Int)=(((sIx n 0 lo:Nat):Int),((sIx n n hi:Nat):Int)):=by
 have h1:¬ ((1:Int) < 0):=by omega
 unfold Builtin.Slice.sliceAdjust
 simp only [h1,if_false]
 refine Prod.ext ?_ ?_
 ·cases lo with
  | none=>rfl
  | some v=>exact zhF v n 0
 ·cases hi with
  | none=>rfl
  | some v=>exact zhF v n n
theorem zhb (i j:Nat):Builtin.Slice.slicePlaces (i:Int) (j:Int) 1=j - i:=by
 unfold Builtin.Slice.slicePlaces
 have h1:(1:Int) > 0:=by omega
 simp only [h1,if_true,Int.ediv_one]
 split <;> omega
theorem zea {v:Value} {o:Option Int} {Q:Option Int→Shared→Prop} (p:IsPart v o) (h:Q o s):wpAny (model prog w) A (Builtin.Slice.slicePartIndex v) Q E s:=by
 cases p with
 | none=>exact slicePart_none h
 | int i t=>exact slicePart_int h
theorem zdt {sl:Addr} {vl vu:Value} {lo hi:Option Int} {n:Nat} {Q:Int × Int × Nat→Shared→Prop} (hs:s.heap.IsSliceOf sl vl vu .none) (pl:IsPart vl lo) (pu:IsPart vu hi)
  (h:Q (((sIx n 0 lo:Nat):Int),1,sIx n n hi - sIx n 0 lo) s):wpAny (model prog w) A (Builtin.Slice.sliceApplied (.ref sl) (pure (n:Int))) Q E s:=by
 obtain ⟨os,hos,hcs,hds⟩:=id hs
 unfold Builtin.Slice.sliceApplied Builtin.Slice.sliceFields
 refine wpAny_bind (wpAny_bind (wpAny_field hos hds (x:=vl) rfl (wpAny_bind (wpAny_field hos hds (x:=vu) rfl (wpAny_bind (wpAny_field hos hds (x := .none) rfl (wpAny_pure ?_)))))))
 refine wpAny_bind (slicePart_none ?_)
 show wpAny _ _ (if ((1:Int) == 0)=true then _ else _) _ _ s
 rw [if_neg (by decide)]
 refine wpAny_bind (zea pl (wpAny_bind (zea pu (wpAny_bind (wpAny_pure ?_)))))
 show wpAny _ _ (match Builtin.Slice.sliceAdjust lo hi 1 (n:Int) with | (lo,hi)=>pure (lo,(1:Int),Builtin.Slice.slicePlaces lo hi 1)) _ _ s
 rw [zg1 lo hi n]
 show wpAny _ _ (pure (((sIx n 0 lo:Nat):Int),(1:Int),Builtin.Slice.slicePlaces ((sIx n 0 lo:Nat):Int) ((sIx n n hi:Nat):Int) 1)) _ _ s
 rw [zhb]
 exact wpAny_pure h
theorem ziS (xs:Array Value) (i k:Nat):((List.range k).filterMap fun (m:Nat)=>xs[((i:Int) + (m:Int) * 1).toNat]?).toArray=((xs.toList.drop i).take k).toArray:=by
 have e:(fun (m:Nat)=>xs[((i:Int) + (m:Int) * 1).toNat]?)=fun m=>xs[i + m]?:=by
  funext m
  have:((i:Int) + (m:Int) * 1).toNat=i + m:=by omega
  rw [this]
 rw [e]
 have:=pick_run xs i k
 rw [List.filterMap_map] at this
 have e2:((fun x=>xs[x]?) ∘ fun x=>i + x)=fun m=>xs[i + m]?:=rfl
 rw [e2] at this
 rw [this]
theorem zdf {t sl:Addr} {items:Array Value} {vl vu:Value} {lo hi:Option Int} {Q:Value→Shared→Prop} (ht:IsTup s.heap t items) (hs:s.heap.IsSliceOf sl vl vu .none) (pl:IsPart vl lo) (pu:IsPart vu hi)
  (hw:¬ (sIx items.size 0 lo=0∧sIx items.size items.size hi=items.size))
  (h:Q (.ref s.heap.objs.size) { s with heap:=s.heap.push { cls := .type "tuple",data := .seq ((items.toList.drop (sIx items.size 0 lo)).take (sIx items.size items.size hi - sIx items.size 0 lo)).toArray } })
  (hsz:items.size ≤ sizeLine):wpAny (model prog w) A (getItem (.ref t) (.ref sl)) Q E s:=by
 have htake:sizeOk (.seq ((items.toList.drop (sIx items.size 0 lo)).take (sIx items.size items.size hi - sIx items.size 0 lo)).toArray):=by
  show ((items.toList.drop (sIx items.size 0 lo)).take (sIx items.size items.size hi - sIx items.size 0 lo)).toArray.size ≤ sizeLine
  rw [List.size_toArray,List.length_take,List.length_drop,Array.length_toList]
  omega
 have hj:sIx items.size items.size hi ≤ items.size:=zlU _ _ (Nat.le_refl _) hi
 obtain ⟨os,hos,hcs,hds⟩:=id hs
 have hTs:s.TypeIs (.ref sl) "slice":=⟨os,hos,hcs⟩
 unfold getItem
 try with_reducible refine wpAny_holding ?_
 first | refine wpAny_bind (wpAny_pure ?_) | skip
 refine wpAny_bind (wpAny_sequenceKey ht.typeIs (by decide) ?_)
 refine wpAny_bind (wpAny_callSpecial?_slot (name:=Str.ofString "__getitem__") ht.typeIs PyProof.Rows.slot_tuple_getitem
  (wpAny_call_entry PyProof.Rows.slot_tuple_getitem ht.typeIs entry_tuple_getitem ?_ (args_tuple_getitem _ _)))
 show wpAny _ _ (Builtin.Tuple.tupleItemsOf (.ref t) >>= _) _ _ s
 refine wpAny_bind (tupleItemsOf_ ht ?_)
 refine wpAny_bind (wpAny_typeOf hTs ?_)
 rw [if_pos (by decide)]
 refine wpAny_bind (zdt hs pl pu ?_)
 have hno:¬ ((((sIx items.size 0 lo:Nat):Int) == 0 && (1:Int) == 1 && (sIx items.size items.size hi - sIx items.size 0 lo) == items.size)=true):=by
  intro q
  rw [Bool.and_eq_true,Bool.and_eq_true] at q
  have q1:((sIx items.size 0 lo:Nat):Int)=0:=eq_of_beq q.1.1
  have q2:sIx items.size items.size hi - sIx items.size 0 lo=items.size:=eq_of_beq q.2
  exact hw ⟨by omega,by omega⟩
 show wpAny _ _ (if (((sIx items.size 0 lo:Nat):Int) == 0 && (1:Int) == 1 && (sIx items.size items.size hi - sIx items.size 0 lo) == items.size)=true then _ else _) _ _ s
 rw [if_neg hno,ziS]
 first
  | exact wpAny_bind (m:=Builtin.Tuple.tupleExact _) (wpAny_newObj_type (wpAny_pure ⟨_,rfl,wpAny_pure h⟩) htake)
  | exact wpAny_bind (m:=Builtin.Tuple.tupleExact _) (wpAny_newObj_type (wpAny_bind (wpAny_pure (wpAny_pure ⟨_,rfl,wpAny_pure h⟩))) htake)
  | exact wpAny_bind (wpAny_bind (m:=Builtin.Tuple.tupleExact _) (wpAny_newObj_type (wpAny_pure (wpAny_pure ⟨_,rfl,wpAny_pure h⟩)) htake))
  | exact wpAny_bind (wpAny_bind (m:=Builtin.Tuple.tupleExact _) (wpAny_newObj_type (wpAny_pure ⟨_,rfl,wpAny_pure h⟩) htake))
end
end HT
namespace L2
open PySem PySem.Spec PyProof.Rows
abbrev TO:=St→Hp→(Option Int→Hp→Prop)→Prop
def PO (X:Cx) (e:Option Expr) (t:TO):Prop :=
 ∀ (pins:List (Addr × Obj)) (s:Shared) (σ:St) (H:Hp) (Q:Option Int→Hp→Prop),Inv X pins σ H s→t σ H Q →
  wpAny (model X.prog X.w) X.A (evalPart e X.env) (fun u s'=>∃ o H',Inv X pins σ H' s'∧IsPart u o∧Q o H') X.xe s
def zk4:TO:=fun _ H Q=>Q none H
def zno (t:TE):TO:=fun σ H Q=>t σ H fun x H1=>∃ i,x = .int i∧Q (some i) H1
section
variable {X:Cx} {e:Expr} {te:TE} {lo hi:Option Expr} {tl th:TO} {pos p2:Pos}
theorem zkP:PO X none zk4:=by
 intro pins s σ H Q I h
 rw [evalPart_none]
 exact wpAny_pure ⟨none,H,I, .none,h⟩
theorem zlv (h:PE X e te):PO X (some e) (zno te):=by
 intro pins s σ H Q I hw
 rw [evalPart_some]
 refine thn (h pins s σ H _ I hw) fun u s1 ⟨x,H1,I1,r1,q1⟩=>?_
 obtain ⟨i,rfl,q⟩:=q1
 obtain ⟨t,rfl⟩:=r1
 exact ⟨some i,H1,I1, .int i t,q⟩
def SlR (X:Cx) (r:V→Option Int→Option Int→Hp→VK→Prop):Prop :=
 ∀ (pins:List (Addr × Obj)) (s:Shared) (σ:St) (H:Hp) (x:V) (v vl vu:Value) (lo hi:Option Int) (sl:Addr) (Q:VK),Inv X pins σ H s→RelV x v→s.heap.IsSliceOf sl vl vu .none→IsPart vl lo→IsPart vu hi→r x lo hi H Q →
  ∃ T id,typeLookup (.type T) "__getitem__" = pure (some (.builtin id))∧s.TypeIs v T∧wpAny (model X.prog X.w) X.A (getItem v (.ref sl)) (EP X pins σ Q) X.xe s
theorem SlR.or {r r':V→Option Int→Option Int→Hp→VK→Prop} (h:SlR X r) (h':SlR X r'):SlR X (fun x lo hi H Q=>r x lo hi H Q∨r' x lo hi H Q):=by
 intro pins s σ H x v vl vu lo hi sl Q I rx hs pl pu q
 rcases q with q | q
 ·exact h pins s σ H x v vl vu lo hi sl Q I rx hs pl pu q
 ·exact h' pins s σ H x v vl vu lo hi sl Q I rx hs pl pu q
def tSl (r:V→Option Int→Option Int→Hp→VK→Prop) (te:TE) (tl th:TO):TE:=fun σ H Q=>te σ H fun x H1=>tl σ H1 fun l H2=>th σ H2 fun u H3=>r x l u H3 Q
theorem zjy {r:V→Option Int→Option Int→Hp→VK→Prop} (hr:SlR X r) (he:PE X e te) (hl:PO X lo tl) (hu:PO X hi th):PE X (.Subscript e (.Slice lo hi none p2) pos) (tSl r te tl th):=by
 intro pins s σ H Q I h
 refine Subscript_ (thn (he pins s σ H _ I h) fun v s1 ⟨x,H1,I1,r1,q1⟩=>?_)
 refine wpAny_Slice (thn (hl pins s1 σ H1 _ I1 q1) fun vl s2 ⟨l,H2,I2,pl,q2⟩=>thn (hu pins s2 σ H2 _ I2 q2) fun vu s3 ⟨u,H3,I3,pu,q3⟩=>?_)
 rw [evalPart_none]
 refine wpAny_pure ?_
 have I4:Inv X pins σ H3 { s3 with heap:=s3.heap.push { cls := .type "slice",data := .fields #[vl,vu, .none] } }:=I3.kept (t':=s3.toks) fun b ob q=>Heap.get?_push_of_some _ q
 obtain ⟨T,id,hT,ht,hg⟩:=hr pins { s3 with heap:=s3.heap.push { cls := .type "slice",data := .fields #[vl,vu, .none] } } σ H3 x v vl vu l u s3.heap.objs.size Q I4 r1 (Heap.IsSliceOf.new ..) pl pu q3
 show wpAny (model X.prog X.w) X.A (subscriptTail e (.Slice lo hi none p2) v (.ref s3.heap.objs.size)) (EP X pins σ Q) X.xe { s3 with heap:=s3.heap.push { cls := .type "slice",data := .fields #[vl,vu, .none] } }
 exact tail_any (ops:=[.ref s3.heap.objs.size,v]) ht hT hg (by with_unfolding_all rfl)
def cutV (xs:List V) (lo hi:Option Int):List V:=(xs.drop (HT.sIx xs.length 0 lo)).take (HT.sIx xs.length xs.length hi - HT.sIx xs.length 0 lo)
theorem zdK (xs:List V) (lo hi:Option Int):(cutV xs lo hi).length ≤ xs.length:=by
 unfold cutV
 rw [List.length_take,List.length_drop]
 omega
def rSlT (K:PySem.W.Frag):V→Option Int→Option Int→Hp→VK→Prop:=fun x lo hi H Q=>∃ a xs,x = .ref a∧SqT K H a xs ∧
 ¬ (HT.sIx xs.length 0 lo=0∧HT.sIx xs.length xs.length hi=xs.length)∧∀ p,H p=none→Q (.ref p) (upd H p (.tup (cutV xs lo hi)))
theorem zmG:SlR X (rSlT X.K):=by
 intro pins s σ H x v vl vu lo hi sl Q I rx hs pl pu h
 obtain ⟨a,xs,rfl,hx,hw,q⟩:=h
 cases rx
 obtain ⟨its,r,ht,hz⟩:=I.tuple hx
 have hlen:its.toArray.size=xs.length:=by rw [List.size_toArray];exact r.length.symm
 refine ⟨"tuple",_,PyProof.Rows.slot_tuple_getitem.lookup,ht.typeIs,?_⟩
 refine HT.zdf ht hs pl pu (by rw [hlen];exact hw) ?_ (by rw [hlen];exact hz)
 rw [hlen]
 refine ⟨.ref s.heap.objs.size,_,I.laid (t':=s.toks) (o := .tup (cutV xs lo hi)) (fun b ob q=>Heap.get?_push_of_some _ q) (Nat.le_refl _) ?_,rfl,q _ (I.hok.fresh (Nat.le_refl _))⟩
 exact ⟨Nat.le_trans (zdK xs lo hi) hz,_,(r.drop (HT.sIx xs.length 0 lo)).take (HT.sIx xs.length xs.length hi - HT.sIx xs.length 0 lo),IsTup.new _ _⟩
def znl (K:PySem.W.Frag):R2:=fun x y H Q=>∃ a b xs ys,x = .ref a∧y = .ref b∧SqT K H a xs∧SqT K H b ys∧xs ≠ []∧xs.length + ys.length ≤ sizeLine ∧
 (ys=[]→Q (.ref a) H)∧(ys ≠ []→∀ p,H p=none→Q (.ref p) (upd H p (.tup (xs ++ ys))))
theorem Vals.zgd {xs:List V} {us:List Value} (r:Vals xs us):us=[]↔xs=[]:=by
 cases r with
 | nil=>simp
 | cons _ _=>simp
theorem zkS:OpR X (binaryOp .Add) (znl X.K):=by
 intro pins s σ H x y v u Q I rx ry h
 obtain ⟨a,b,xs,ys,rfl,rfl,ha,hb,hx,hz,q1,q2⟩:=h
 cases rx
 cases ry
 obtain ⟨its,r1,p1,_⟩:=I.tuple ha
 obtain ⟨its2,r2,p2,_⟩:=I.tuple hb
 refine HT.zkL p1 p2 (fun z=>hx (r1.zgd.mp z)) (fun z=>⟨.ref a,H,I,rfl,q1 (r2.zgd.mp z)⟩) (fun z=>?_) (by rw [← r1.length,← r2.length];exact hz)
 refine ⟨.ref s.heap.objs.size,_,I.laid (t':=s.toks) (o := .tup (xs ++ ys)) (fun b ob q=>Heap.get?_push_of_some _ q) (Nat.le_refl _) ?_,rfl,q2 (fun w=>z (r2.zgd.mpr w)) _ (I.hok.fresh (Nat.le_refl _))⟩
 exact ⟨by rw [List.length_append];exact hz,_,r1.append r2,IsTup.new _ _⟩
end
end L2
namespace L2
open PySem PySem.Spec PyProof.Rows
def ixN (n:Nat) (i:Int):Option Nat:=if 0 ≤ i then (if i < n then some i.toNat else none) else if -(n:Int) ≤ i then some (i + n).toNat else none
def atI {α:Type} (xs:List α) (i:Int):Option α:=(ixN xs.length i).bind fun j=>xs[j]?
theorem zlg {n:Nat} {i:Int} {j:Nat} (h:ixN n i=some j):seqIndex? i n=some j∧j < n∧-(n:Int) ≤ i∧i < n:=by
 unfold ixN at h
 by_cases h0:0 ≤ i
 ·rw [if_pos h0] at h
  by_cases h1:i < n
  ·rw [if_pos h1] at h
   have e:i.toNat=j:=Option.some.inj h
   exact ⟨by rw [seqIndex_of h0 h1,e],by omega,by omega,h1⟩
  ·rw [if_neg h1] at h;cases h
 ·rw [if_neg h0] at h
  by_cases h1 : -(n:Int) ≤ i
  ·rw [if_pos h1] at h
   have e:(i + n).toNat=j:=Option.some.inj h
   exact ⟨by rw [seqIndex_neg (by omega) h1,e],by omega,h1,by omega⟩
  ·rw [if_neg h1] at h;cases h
theorem zgi {α:Type} {xs:List α} {i:Int} {v:α} (h:atI xs i=some v):∃ j,seqIndex? i xs.length=some j∧xs[j]? = some v∧j < xs.length∧-(xs.length:Int) ≤ i∧i < xs.length:=by
 unfold atI at h
 cases e:ixN xs.length i with
 | none=>rw [e] at h;cases h
 | some j =>
  rw [e] at h
  obtain ⟨h1,h2,h3,h4⟩:=zlg e
  exact ⟨j,h1,h,h2,h3,h4⟩
def zgc (b:Expr):Prop:=∀ o i,subscripted b false o i=operate [o,i] (getItem o i)
def IxR (X:Cx) (r:R2):Prop :=
 ∀ (value slice:Expr) (pins:List (Addr × Obj)) (s:Shared) (σ:St) (H:Hp) (x y:V) (v u:Value) (Q:VK),Inv X pins σ H s→RelV x v→RelV y u→r x y H Q →
  subscripted slice false v u=operate [v,u] (getItem v u)→wpAny (model X.prog X.w) X.A (subscriptTail value slice v u) (EP X pins σ Q) X.xe s
def MtR (X:Cx) (id:String) (r:V→List V→Hp→VK→Prop):Prop :=
 ∀ (pins:List (Addr × Obj)) (s:Shared) (σ:St) (H:Hp) (x:V) (xs:List V) (v:Value) (us:List Value) (Q:VK),Inv X pins σ H s→RelV x v→Vals xs us→r x xs H Q →
  wpAny (model X.prog X.w) X.A (call (.builtin id) (v :: us)) (EP X pins σ Q) X.xe s
section
variable {X:Cx} {a b:Expr} {ta tb:TE} {pos:Pos}
theorem IxR.or {r r':R2} (h:IxR X r) (h':IxR X r'):IxR X (fun x y H Q=>r x y H Q∨r' x y H Q):=by
 intro value slice pins s σ H x y v u Q I rx ry q hs
 rcases q with q | q
 ·exact h value slice pins s σ H x y v u Q I rx ry q hs
 ·exact h' value slice pins s σ H x y v u Q I rx ry q hs
theorem MtR.or {id:String} {r r':V→List V→Hp→VK→Prop} (h:MtR X id r) (h':MtR X id r'):MtR X id (fun x xs H Q=>r x xs H Q∨r' x xs H Q):=by
 intro pins s σ H x xs v us Q I rx rs q
 rcases q with q | q
 ·exact h pins s σ H x xs v us Q I rx rs q
 ·exact h' pins s σ H x xs v us Q I rx rs q
theorem zlV {r:R2} (hr:IxR X r) (ha:PE X a ta) (hb:PE X b tb) (hs:zgc b):PE X (.Subscript a b pos) (tOp r ta tb):=by
 intro pins s σ H Q I h
 exact Subscript_ (binT ha hb I h fun v u s2 x y H2 I2 rx ry q=>hr a b pins s2 σ H2 x y v u Q I2 rx ry q (hs _ _))
def rIxL (K:PySem.W.Frag):R2:=fun x y H Q=>∃ p xs i v,x = .ref p∧y = .int i∧SqL K H p xs∧atI xs i=some v∧Q v H
def rIxT (K:PySem.W.Frag):R2:=fun x y H Q=>∃ p xs i v,x = .ref p∧y = .int i∧SqT K H p xs∧atI xs i=some v∧Q v H
def rIxS:R2:=fun x y H Q=>∃ z i c,x = .str z∧y = .int i∧z.length ≤ sizeLine∧atI z.cps.toList i=some c∧Q (.str ⟨#[c]⟩) H
theorem zkj:IxR X (rIxL X.K):=by
 intro value slice pins s σ H x y v u Q I rx ry h hs
 obtain ⟨p,xs,i,z,rfl,rfl,hq,he,q⟩:=h
 cases rx
 obtain ⟨t,rfl⟩:=ry
 obtain ⟨its,r,pl,hz⟩:=I.list hq
 obtain ⟨j,h1,h2,h3,h4,h5⟩:=zgi he
 obtain ⟨w,ew,rw'⟩:=r.get h2
 have hl:=r.length
 have hn:=zeX
 have fin:EP X pins σ Q w s:=⟨z,H,I,rw',q⟩
 by_cases h0:0 ≤ i
 ·have hj:i.toNat=j:=by
   rw [seqIndex_of h0 h5] at h1
   exact Option.some.inj h1
  exact item_listR pl.isList h0 (by omega) (by rw [hj];simpa using ew) fin hs
 ·have hj:(i + (its.toArray.size:Int)).toNat=j:=by
   rw [seqIndex_neg (by omega) h4] at h1
   rw [List.size_toArray,← hl]
   exact Option.some.inj h1
  exact subscriptTail_builtinR (x:=w) pl.isList.typeIs slot_list_getitem.lookup
   (wpAny_getItem_list_neg (Q:=fun r s'=>r=w∧EP X pins σ Q r s') pl.isList (by omega) (by rw [List.size_toArray] <;> omega) (by omega) (by rw [hj];simpa using ew) ⟨rfl,fin⟩) hs
theorem zm0:IxR X (rIxT X.K):=by
 intro value slice pins s σ H x y v u Q I rx ry h hs
 obtain ⟨p,xs,i,z,rfl,rfl,hq,he,q⟩:=h
 cases rx
 obtain ⟨t,rfl⟩:=ry
 obtain ⟨its,r,pl,hz⟩:=I.tuple hq
 obtain ⟨j,h1,h2,h3,h4,h5⟩:=zgi he
 obtain ⟨w,ew,rw'⟩:=r.get h2
 have hl:=r.length
 have hn:=zeX
 have fin:EP X pins σ Q w s:=⟨z,H,I,rw',q⟩
 exact subscriptTail_builtinR (x:=w) pl.typeIs slot_tuple_getitem.lookup
  (getItem_tuple (j:=j) (Q:=fun r s'=>r=w∧EP X pins σ Q r s') pl (by omega) (by omega) (by rw [List.size_toArray,← hl];exact h1) (by simpa using ew) ⟨rfl,fin⟩) hs
theorem zmN:IxR X rIxS:=by
 intro value slice pins s σ H x y v u Q I rx ry h hs
 obtain ⟨z,i,c,rfl,rfl,hz,he,q⟩:=h
 obtain ⟨t,rfl⟩:=rx
 obtain ⟨t',rfl⟩:=ry
 obtain ⟨j,h1,h2,h3,h4,h5⟩:=zgi he
 have hl:z.cps.toList.length=z.length:=by simp [Str.length]
 rw [hl] at h1 h4 h5
 have hn:=zeX
 exact tail_any (typeIs_str s z t) slot_str_getitem.lookup (getItem_str (c:=c) (by
  have e1:decide (i < -(2 ^ 63:Int))=false:=decide_eq_false (by omega)
  have e2:decide (i ≥ 2 ^ 63)=false:=decide_eq_false (by omega)
  rw [e1,e2,Bool.or_false]) (by rw [h1];simpa using h2) ⟨.str ⟨#[c]⟩,H,I.tok _,⟨_,rfl⟩,q⟩) hs
def rIx (K:PySem.W.Frag):R2:=fun x y H Q=>rIxL K x y H Q∨rIxT K x y H Q∨rIxS x y H Q
theorem zjM:IxR X (rIx X.K):=zkj.or (zm0.or zmN)
theorem Inv.lst {pins:List (Addr × Obj)} {σ:St} {H:Hp} {s:Shared} {p:Addr} {xs:List V} (I:Inv X pins σ H s) (h:H p=some (.lst xs)) :
  ∃ (its:List Value) (n:Nat),Vals xs its∧s.heap.get? p=some { cls := .type "list",data := .seq its.toArray n }∧xs.length ≤ sizeLine:=by
 obtain ⟨z,its,n,r,e⟩:=I.hok p _ h
 exact ⟨its,n,r,e,z⟩
theorem ze6 (lo hi:Option Int) (n:Nat):(sliceBounds lo hi none n).1=((HT.sIx n 0 lo:Nat):Int)∧(sliceBounds lo hi none n).2.1=((HT.sIx n n hi:Nat):Int)∧(sliceBounds lo hi none n).2.2=1:=by
 refine ⟨?_,?_,rfl⟩
 ·cases lo with
  | none=>simp [sliceBounds,HT.sIx]
  | some i =>
   simp only [sliceBounds,HT.sIx,Option.getD_none,show (1:Int) > 0 by decide,if_true]
   by_cases h:i < 0
   ·simp only [h,if_true] <;> omega
   ·simp only [h,if_false] <;> omega
 ·cases hi with
  | none=>simp [sliceBounds,HT.sIx]
  | some i =>
   simp only [sliceBounds,HT.sIx,Option.getD_none,show (1:Int) > 0 by decide,if_true]
   by_cases h:i < 0
   ·simp only [h,if_true] <;> omega
   ·simp only [h,if_false] <;> omega
theorem zex (its:List Value) (lo hi:Option Int):slicePick its.toArray lo hi none=((its.drop (HT.sIx its.length 0 lo)).take (HT.sIx its.length its.length hi - HT.sIx its.length 0 lo)).toArray:=by
 obtain ⟨h1,h2,h3⟩:=ze6 lo hi its.toArray.size
 unfold slicePick
 rw [h1,h2,h3]
 simp only [sliceRange_one,pick_run,List.size_toArray] <;> rfl
def rSlL (K:PySem.W.Frag):V→Option Int→Option Int→Hp→VK→Prop:=fun x lo hi H Q=>∃ a xs,x = .ref a∧SqL K H a xs∧∀ p,H p=none→Q (.ref p) (upd H p (.lst (cutV xs lo hi)))
theorem zkv:SlR X (rSlL X.K):=by
 intro pins s σ H x v vl vu lo hi sl Q I rx hs pl pu h
 obtain ⟨a,xs,rfl,hx,q⟩:=h
 cases rx
 obtain ⟨its,r,ht,hz⟩:=I.list hx
 have hlen:=r.length
 refine ⟨"list",_,slot_list_getitem.lookup,ht.isList.typeIs,?_⟩
 refine wpAny_getItem_list_slice ht.isList hs pl pu .none (by simp) ?_ (by rw [List.size_toArray] <;> omega)
 rw [zex,← hlen]
 refine ⟨.ref s.heap.objs.size,_,I.laid (t':=s.toks) (o := .lst (cutV xs lo hi)) (fun b ob q=>Heap.get?_push_of_some _ q) (Nat.le_refl _) ?_,rfl,q _ (I.hok.fresh (Nat.le_refl _))⟩
 exact ⟨Nat.le_trans (zdK xs lo hi) hz,_,0,(r.drop (HT.sIx xs.length 0 lo)).take (HT.sIx xs.length xs.length hi - HT.sIx xs.length 0 lo),Heap.get?_push_size _ rfl⟩
theorem ze4:zcm X (.builtin "len") (fun xs H Q=>∃ p ys,xs=[.ref p]∧(SqL X.K H p ys∨SqT X.K H p ys)∧Q (.int ys.length) H):=by
 intro pins s σ H xs us Q I r h
 obtain ⟨p,ys,rfl,hq,q⟩:=h
 obtain ⟨u,rfl,rx⟩:=vals1 r
 cases rx
 have hn:=zeX
 rcases hq with hq | hq
 ·obtain ⟨its,r',pl,hz⟩:=I.list hq
  have hlen:=r'.length
  exact Calls.call_len_list pl.isList (by simp only [List.size_toArray] <;> omega) ⟨.int ys.length,H,I.tok _,⟨s.toks + 1,by rw [List.size_toArray,hlen]⟩,q⟩
 ·obtain ⟨its,r',pl,hz⟩:=I.tuple hq
  have hlen:=r'.length
  exact len_tuple pl (by simp only [List.size_toArray] <;> omega) ⟨.int ys.length,H,I.tok _,⟨s.toks + 1,by rw [List.size_toArray,hlen]⟩,q⟩
theorem zfx:zcm X (.builtin "len") (fun xs H Q=>∃ z,xs=[.str z]∧z.length ≤ sizeLine∧Q (.int z.length) H):=by
 intro pins s σ H xs us Q I r h
 obtain ⟨z,rfl,hz,q⟩:=h
 obtain ⟨u,rfl,t,rfl⟩:=vals1 r
 have hn:=zeX
 exact len_str (by omega) ⟨.int z.length,H,I.tok _,⟨_,rfl⟩,q⟩
theorem zcm.or {f:Value} {r r':List V→Hp→VK→Prop} (h:zcm X f r) (h':zcm X f r'):zcm X f (fun xs H Q=>r xs H Q∨r' xs H Q):=by
 intro pins s σ H xs us Q I rs q
 rcases q with q | q
 ·exact h pins s σ H xs us Q I rs q
 ·exact h' pins s σ H xs us Q I rs q
theorem zfw:zcm X (.type "list") (fun xs H Q=>∃ p ys,xs=[.ref p]∧(SqL X.K H p ys∨SqT X.K H p ys)∧∀ l,H l=none→Q (.ref l) (upd H l (.lst ys))):=by
 intro pins s σ H xs us Q I r h
 obtain ⟨p,ys,rfl,hq,q⟩:=h
 obtain ⟨u,rfl,rx⟩:=vals1 r
 cases rx
 have fin:∀ (its:List Value),Vals ys its→ys.length ≤ sizeLine→∀ (h':Heap) (c':Nat),(∀ b o',s.heap.get? b=some o'→h'.get? b=some o') →
   h'.get? s.heap.objs.size=some { cls := .type "list",dict:=none,data := .seq its.toArray c',slots:=#[] }→EP X pins σ Q (.ref s.heap.objs.size) { s with heap:=h' }:=fun its r' hz h' c' kp e =>
  ⟨.ref s.heap.objs.size,_,I.laid (t':=s.toks) kp (Nat.le_refl _) (show zbB X.prog X.w _ h' _ (.lst ys) from ⟨hz,its,c',r',e⟩),rfl,q _ (I.hok.fresh (Nat.le_refl _))⟩
 rcases hq with hq | hq
 ·obtain ⟨its,r',pl,hz⟩:=I.list hq
  have hlen:=r'.length
  obtain ⟨o,ho,hc,n,hd⟩:=pl.isList
  exact call_list_seq p (.inl rfl) ho hc hd (fun h' c' kp e=>fin its r' hz h' c' kp e) (by simp only [List.size_toArray] <;> omega)
 ·obtain ⟨its,r',pl,hz⟩:=I.tuple hq
  have hlen:=r'.length
  obtain ⟨o,ho,hc,n,hd⟩:=pl
  exact call_list_seq p (.inr rfl) ho hc hd (fun h' c' kp e=>fin its r' hz h' c' kp e) (by simp only [List.size_toArray] <;> omega)
theorem zeC:zcm X (.type "tuple") (fun xs H Q=>∃ p ys,xs=[.ref p]∧((SqL X.K H p ys∧∀ l,H l=none→Q (.ref l) (upd H l (.tup ys)))∨(SqT X.K H p ys∧Q (.ref p) H))):=by
 intro pins s σ H xs us Q I r h
 obtain ⟨p,ys,rfl,h⟩:=h
 obtain ⟨u,rfl,rx⟩:=vals1 r
 cases rx
 rcases h with ⟨hq,q⟩ | ⟨hq,q⟩
 ·obtain ⟨its,r',pl,hz⟩:=I.list hq
  have hlen:=r'.length
  refine call_tuple_list pl.isList (fun h' kp=>?_) (by simp only [List.size_toArray] <;> omega)
  have I1:Inv X pins σ H { s with heap:=h' }:=I.kept (t':=s.toks) kp
  have I2:Inv X pins σ (upd H h'.objs.size (.tup ys)) { s with heap:=h'.push { cls := .type "tuple",data := .seq its.toArray } } :=
   I1.laid (t':=s.toks) (fun b o e=>Heap.get?_push_of_some _ e) (Nat.le_refl _) (show zbB X.prog X.w _ _ _ (.tup ys) from ⟨hz,its,r',IsTup.new _ _⟩)
  exact ⟨.ref h'.objs.size,_,I2,rfl,q _ (I1.hok.fresh (Nat.le_refl _))⟩
 ·obtain ⟨its,r',pl,hz⟩:=I.tuple hq
  exact call_tuple_same pl ⟨.ref p,H,I,rfl,q⟩
def tyV (K:PySem.W.Frag) (T:String) (x:V) (H:Hp):Prop:=match x with
 | .str _=>T = "str"
 | .int _=>T = "int"
 | .ref p=>(T = "list"∧∃ xs,SqL K H p xs)∨(T = "tuple"∧∃ o,K.lookup p=some o∧o.cls = .type "tuple"∧o.dict=none) ∨
   (T = "dict"∧((∃ kvs,H p=some (.dK kvs))∨∃ kvs,H p=some (.dT kvs)))∨(T = "set"∧∃ S n,H p=some (.set S n))
 | _=>False
theorem zlO {pins:List (Addr × Obj)} {σ:St} {H:Hp} {s:Shared} {T:String} {x:V} {v:Value} (I:Inv X pins σ H s) (r:RelV x v) (ty:tyV X.K T x H) :
  s.TypeIs v T∧∀ a,v = .ref a→∃ ob,s.heap.get? a=some ob∧ob.dict=none:=by
 cases x with
 | str z =>
  obtain ⟨t,rfl⟩:=r
  cases (show T = "str" from ty)
  exact ⟨typeIs_str s z t,fun _ e=>nomatch e⟩
 | int i =>
  obtain ⟨t,rfl⟩:=r
  cases (show T = "int" from ty)
  exact ⟨typeIs_int s i t,fun _ e=>nomatch e⟩
 | ref p =>
  cases r
  rcases ty with ⟨rfl,xs,hq⟩ | ⟨rfl,o,hk,hc,hd⟩ | ⟨rfl,hk⟩ | ⟨rfl,S,n,hk⟩
  ·obtain ⟨its,_,pl,_⟩:=I.list hq
   refine ⟨pl.isList.typeIs,fun a e=>?_⟩
   cases e
   obtain ⟨o,n,e,c,hd,_⟩:=pl
   exact ⟨o,e,hd⟩
  ·refine ⟨⟨o,I.kIn p o hk,hc⟩,fun a e=>?_⟩
   cases e
   exact ⟨o,I.kIn _ o hk,hd⟩
  ·have z:∃ o,s.heap.get? p=some o∧o.ExactDict:=by
    rcases hk with ⟨kvs,hk⟩ | ⟨kvs,hk⟩
    ·obtain ⟨_,_,_,_,o,_,_,e,ex,_⟩:=I.hok p _ hk
     exact ⟨o,e,ex⟩
    ·obtain ⟨_,_,_,_,o,_,_,e,ex,_⟩:=I.hok p _ hk
     exact ⟨o,e,ex⟩
   obtain ⟨o,e,ex⟩:=z
   refine ⟨⟨o,e,ex.1⟩,fun a e2=>?_⟩
   cases e2
   exact ⟨o,e,ex.2.1⟩
  ·obtain ⟨o,_,_,_,e,ex,_⟩:=I.hok p _ hk
   refine ⟨⟨o,e,ex.1⟩,fun a e2=>?_⟩
   cases e2
   exact ⟨o,e,ex.2.1⟩
 | _=>exact False.elim ty
def tBM (K:PySem.W.Frag) (T:String) (r:V→List V→Hp→VK→Prop) (to:TE) (t:TA):TE:=fun σ H Q=>to σ H fun x H1=>tyV K T x H1∧t σ H1 fun xs H2=>r x xs H2 Q
variable {o e:Expr} {es:List Expr} {to:TE} {t:TA} {name:Str} {apos cpos:Pos} {T id:String} {r:V→List V→Hp→VK→Prop}
theorem zmR (pa:PlainAttrs T) (slot:Slot T name id) (hty:typeOf (.builtin id)=pure (.type "method_descriptor")) (hm:MtR X id r) (ho:PE X o to) (ha:PA X (e :: es) t)
  (hbase:attributeBase o name X.env (eval o X.env)=eval o X.env:=by rfl)
  (hfew:((backTo cpos (starEach (e :: es) X.env)).all (fun x=>!x.1) && (backToKw cpos (keywordEach [] X.env)).all (fun x=>x.1.isSome)
   && decide ((e :: es).length + ([] : List Keyword).length + (if ([] : List Keyword).isEmpty then 0 else 1) < 30))=true:=by rfl)
  (hline:(apos.endLine == cpos.line)=true:=by rfl) (hs:starEach (e :: es) X.env=(false,eval e X.env) :: starEach es X.env:=by rfl) (hplain:(backTo cpos (starEach es X.env)).any (·.1)=false:=by rfl) :
  PE X (.Call (.Attribute o name apos) (e :: es) [] cpos) (tBM X.K T r to t):=by
 intro pins s σ H Q I h
 refine wpAny_Call_method_late hbase hfew hline rfl (thn (ho pins s σ H _ I h) fun v s1 ⟨x,H1,I1,r1,ty,q1⟩=>?_)
 obtain ⟨h1,h2⟩:=zlO I1 r1 ty
 refine ⟨T,id,pa,slot,hty,h1,h2,?_⟩
 have hA:=ha cpos pins s1 σ H1 _ I1 q1
 rw [hs] at hA ⊢
 refine Calls.callWith_builtin (by show (false || (backTo cpos (starEach es X.env)).any (·.1))=false;rw [hplain] <;> rfl) (Calls.evalArgs_plain ?_)
 exact thn hA fun us s2 ⟨vs,H2,I2,r2,q2⟩=>hm pins s2 σ H2 x vs v us Q I2 r1 r2 q2
end
end L2
namespace L2
open PySem PySem.Spec PyProof.Rows
def MtM (X:Cx) (id:String) (r:V→List V→Hp→VK→Prop):Prop :=
 ∀ (pins:List (Addr × Obj)) (s:Shared) (σ:St) (H:Hp) (x:V) (xs:List V) (v:Value) (us:List Value) (Q:VK),Inv X pins σ H s→RelV x v→Vals xs us→r x xs H Q →
  wpAny (model X.prog X.w) X.A (call (.builtin id) (v :: us)) (EP X pins σ Q) X.xe s
theorem Vals.one:∀ {x:V} {us:List Value},Vals [x] us→∃ u,us=[u]∧RelV x u
 | _,_, .cons r .nil=>⟨_,rfl,r⟩
theorem Vals.two:∀ {x y:V} {us:List Value},Vals [x,y] us→∃ u v,us=[u,v]∧RelV x u∧RelV y v
 | _,_,_, .cons r (.cons q .nil)=>⟨_,_,rfl,r,q⟩
theorem Vals.zero:∀ {us:List Value},Vals [] us→us=[]
 | _, .nil=>rfl
section
variable {X:Cx} {pins:List (Addr × Obj)} {σ:St} {H:Hp} {s:Shared} {l b:Addr} {xs ys zs:List V}
theorem Inv.lset {its its':List Value} {n:Nat} {f:Array Value→Array Value} {t':Nat} (I:Inv X pins σ H s) (hH:H l=some (.lst xs))
  (e:s.heap.get? l=some { cls := .type "list",data := .seq its.toArray n }) (hf:f its.toArray=its'.toArray) (hv:Vals ys its') (hz:ys.length ≤ sizeLine) :
  Inv X pins σ (upd H l (.lst ys)) { s with heap:=s.heap.update l (Obj.mapSeq f),toks:=t' }:=by
 have q:=PySem.IsL.update e f
 rw [hf] at q
 refine I.write (x:=l) (e:=l) (by rw [hH];exact trivial) (.inl rfl) (fun b' u hb hu=>(Heap.get?_update_other s.heap (Obj.mapSeq f) (Ne.symm hb)).trans hu) ⟨_,q⟩ ?_
 exact ⟨hz,its',_,hv,q⟩
theorem Inv.lnew {its:List Value} {t':Nat} (I:Inv X pins σ H s) (hv:Vals ys its) (hz:ys.length ≤ sizeLine) :
  Inv X pins σ (upd H s.heap.objs.size (.lst ys)) { s with heap:=s.heap.push { cls := .type "list",data := .seq its.toArray },toks:=t' } :=
 I.laid (fun _ _ q=>Heap.get?_push_of_some _ q) (Nat.le_refl _) ⟨hz,its,0,hv,Heap.get?_push_size _ rfl⟩
theorem Inv.fresh (I:Inv X pins σ H s):H s.heap.objs.size=none:=I.hok.fresh (Nat.le_refl _)
theorem Inv.lstM (I:Inv X pins σ H s) (hH:H l=some (.lst xs)):xs.length ≤ sizeLine∧∃ (its:List Value) (n:Nat),Vals xs its∧xs.length=its.length∧s.heap.get? l=some { cls := .type "list",data := .seq its.toArray n }:=by
 obtain ⟨z,its,n,r,e⟩:=I.hok l _ hH
 exact ⟨z,its,n,r,r.length,e⟩
end
section
variable {X:Cx}
def ziI:V→List V→Hp→VK→Prop:=fun x vs H Q=>∃ l xs y,x = .ref l∧vs=[y]∧H l=some (.lst xs)∧xs.length < sizeLine∧Q .non (upd H l (.lst (xs ++ [y])))
theorem zc6:MtM X "list.append" ziI:=by
 intro pins s σ H x vs v us Q I rx rv h
 obtain ⟨l,xs,y,rfl,rfl,hH,hz,q⟩:=h
 cases rx
 obtain ⟨u,rfl,ru⟩:=rv.one
 obtain ⟨z,its,n,r,hl,e⟩:=I.lstM hH
 refine call_meets F.slot_list_append ⟨_,e,rfl⟩ F.entry_list_append (F.args_list_append_2 _ _) (PySem.list_append l its.toArray n u (by rw [List.size_toArray];omega)) ⟨e,?_⟩
 refine ⟨.non,_,I.lset (its':=its ++ [u]) hH e (by simp) (r.append (.cons ru .nil)) ?_,rfl,q⟩
 rw [List.length_append,List.length_singleton]
 omega
def rCat:R2:=fun x y H Q=>∃ l b xs zs,x = .ref l∧y = .ref b∧H l=some (.lst xs)∧H b=some (.lst zs)∧xs.length + zs.length ≤ sizeLine∧∀ p,H p=none→Q (.ref p) (upd H p (.lst (xs ++ zs)))
theorem zm1:OpR X (binaryOp .Add) rCat:=by
 intro pins s σ H x y v u Q I rx ry h
 obtain ⟨l,b,xs,zs,rfl,rfl,hH,hB,hz,q⟩:=h
 cases rx
 cases ry
 obtain ⟨z,its,n,r,hl,e⟩:=I.lstM hH
 obtain ⟨z2,its2,n2,r2,hl2,e2⟩:=I.lstM hB
 refine PySem.P.add_list e e2 ?_ (by rw [List.size_toArray,List.size_toArray];omega)
 have ea:its.toArray ++ its2.toArray=(its ++ its2).toArray:=by simp
 rw [ea]
 exact ⟨.ref _,_,I.lnew (t':=s.toks) (r.append r2) (by rw [List.length_append];omega),rfl,q _ I.fresh⟩
end
section
variable {prog:Program} {w:World} {A:Around} {E:Value→Shared→Prop} {s:Shared}
end
section
variable {X:Cx}
end
end L2
namespace L2
open PySem PySem.Spec PyProof.Rows
section
variable {κ:Type} [DecidableEq κ]
def valV (kvs:List (κ × V)) (k:κ):Option V:=(kvs.find? fun kv=>decide (kv.1=k)).map (·.2)
def putK (kvs:List (κ × V)) (k:κ) (v:V):List (κ × V) :=
 if (kvs.any fun kv=>decide (kv.1=k))=true then kvs.map (fun kv=>if kv.1=k then (kv.1,v) else kv) else kvs ++ [(k,v)]
theorem zgo {p:κ × V} {r:List (κ × V)} {k:κ} (e:p.1=k):valV (p :: r) k=some p.2:=by simp [valV,List.find?_cons,e]
theorem zgs {p:κ × V} {r:List (κ × V)} {k:κ} (e:¬ p.1=k):valV (p :: r) k=valV r k:=by simp [valV,List.find?_cons,e]
theorem RelO.getD {o:Option V} {u:Option Value} {d:V} {d':Value} (r:RelO o u) (rd:RelV d d'):RelV (o.getD d) (u.getD d'):=by
 cases o with
 | none=>cases u with
  | none=>exact rd
  | some _=>exact (show False from r).elim
 | some _=>cases u with
  | none=>exact (show False from r).elim
  | some _=>exact r
theorem KV.val {kvs:List (κ × V)} {vs:List (κ × Value)} (r:KV kvs vs) (k:κ):RelO (valV kvs k) (valueAt vs k):=by
 unfold KV at r
 induction r with
 | nil=>exact True.intro
 | @cons p q ps qs h t ih =>
  obtain ⟨h1,h2⟩:=h
  by_cases e:p.1=k
  ·have e':q.1=k:=h1.symm.trans e
   have b:valueAt (q :: qs) k=some q.2:=by simp [valueAt,List.find?_cons,e']
   rw [zgo e,b];exact h2
  ·have e':¬ q.1=k:=fun z=>e (h1.trans z)
   have b:valueAt (q :: qs) k=valueAt qs k:=by simp [valueAt,List.find?_cons,e']
   rw [zgs e,b];exact ih
theorem KV.any {kvs:List (κ × V)} {vs:List (κ × Value)} (r:KV kvs vs) (k:κ):(kvs.any fun kv=>decide (kv.1=k))=vs.any fun kv=>decide (kv.1=k):=by
 unfold KV at r
 induction r with
 | nil=>rfl
 | cons h t ih=>rw [List.any_cons,List.any_cons,ih,h.1]
theorem KV.keys {kvs:List (κ × V)} {vs:List (κ × Value)} (r:KV kvs vs):kvs.map (·.1)=vs.map (·.1):=by
 unfold KV at r
 induction r with
 | nil=>rfl
 | cons h t ih=>rw [List.map_cons,List.map_cons,ih,h.1]
theorem KV.length {kvs:List (κ × V)} {vs:List (κ × Value)} (r:KV kvs vs):kvs.length=vs.length:=Paired.length r
end
abbrev KT (H:Hp):List (List Key × V)→List (List Key × Addr × Value)→Prop:=Paired fun p q=>p.1=q.1∧H q.2.1=some (.tup (p.1.map kV))∧RelV p.2 q.2.2
theorem KT.val {H:Hp} {kvs:List (List Key × V)} {xs:List (List Key × Addr × Value)} (r:KT H kvs xs) (k:List Key):RelO (valV kvs k) ((atKey xs k).map (·.2)):=by
 induction r with
 | nil=>exact True.intro
 | @cons p q ps qs h t ih =>
  obtain ⟨h1,_,h2⟩:=h
  by_cases e:p.1=k
  ·have e':q.1=k:=h1.symm.trans e
   have b:atKey (q :: qs) k=some q.2:=by simp [atKey,List.find?_cons,e']
   rw [zgo e,b];exact h2
  ·have e':¬ q.1=k:=fun z=>e (h1.trans z)
   have b:atKey (q :: qs) k=atKey qs k:=by simp [atKey,List.find?_cons,e']
   rw [zgs e,b];exact ih
theorem KT.keeps {H H':Hp} {kvs:List (List Key × V)} {xs:List (List Key × Addr × Value)} (r:KT H kvs xs) (ht:∀ b ys,H b=some (.tup ys)→H' b=some (.tup ys)):KT H' kvs xs :=
 Paired.mapP r fun _ _ z=>⟨z.1,ht _ _ z.2.1,z.2.2⟩
section
variable {P:Program} {w:World} {H:Hp} {h:Heap} {a:Addr}
end
def DGet (H:Hp) (a:Addr) (y:V) (r:Option V):Prop :=
 (∃ kvs k,Rd H a (.dK kvs)∧y=kV k∧r=valV kvs k)∨∃ kvs k b,Rd H a (.dT kvs)∧y = .ref b∧H b=some (.tup (k.map kV))∧r=valV kvs k
def DPut (H:Hp) (a:Addr) (y v:V) (H':Hp):Prop :=
 (∃ kvs k,H a=some (.dK kvs)∧y=kV k∧kvs.length < sizeLine∧H'=upd H a (.dK (putK kvs k v))) ∨
 ∃ kvs k b,H a=some (.dT kvs)∧y = .ref b∧H b=some (.tup (k.map kV))∧kvs.length < sizeLine∧H'=upd H a (.dT (putK kvs k v))
theorem DGet.k {H:Hp} {a:Addr} {kvs:List (Key × V)} {k:Key} (e:H a=some (.dK kvs)):DGet H a (kV k) (valV kvs k) := .inl ⟨kvs,k, .inl e,rfl,rfl⟩
theorem DGet.t {H:Hp} {a b:Addr} {kvs:List (List Key × V)} {k:List Key} (e:H a=some (.dT kvs)) (eb:H b=some (.tup (k.map kV))):DGet H a (.ref b) (valV kvs k) := .inr ⟨kvs,k,b, .inl e,rfl,eb,rfl⟩
theorem DPut.k {H:Hp} {a:Addr} {kvs:List (Key × V)} {k:Key} {v:V} (e:H a=some (.dK kvs)) (hl:kvs.length < sizeLine):DPut H a (kV k) v (upd H a (.dK (putK kvs k v))) := .inl ⟨kvs,k,e,rfl,hl,rfl⟩
theorem DPut.t {H:Hp} {a b:Addr} {kvs:List (List Key × V)} {k:List Key} {v:V} (e:H a=some (.dT kvs)) (eb:H b=some (.tup (k.map kV))) (hl:kvs.length < sizeLine) :
  DPut H a (.ref b) v (upd H a (.dT (putK kvs k v))) := .inr ⟨kvs,k,b,e,rfl,eb,hl,rfl⟩
section
variable {X:Cx} {pins:List (Addr × Obj)} {σ:St} {H:Hp} {s:Shared} {a:Addr} {y v:V} {u r:Value} {o:Option V} {A:Around} {E:Value→Shared→Prop}
end
section
variable {X:Cx} {pins:List (Addr × Obj)} {σ:St} {H:Hp} {s:Shared} {a:Addr} {kvs:List (Key × V)} {k:Key} {u:Value} {A:Around} {E:Value→Shared→Prop}
end
section
variable {X:Cx} {o i e value:Expr} {pos pos' tpos:Pos} {td ty tv:TE}
end
section
variable {X:Cx} {pos:Pos}
end
structure M1 (X:Cx) (o:Expr) (m:Str) (apos:Pos) (e:Expr) (cpos:Pos):Prop where
 base:attributeBase o m X.env (eval o X.env)=eval o X.env
 few:((backTo cpos (starEach [e] X.env)).all (fun x=>!x.1) && (backToKw cpos (keywordEach [] X.env)).all (fun x=>x.1.isSome)
  && decide (([e] : List Expr).length + ([] : List Keyword).length + (if ([] : List Keyword).isEmpty then 0 else 1) < 30))=true
 line:(apos.endLine == cpos.line)=true
 trees:backTo cpos (starEach [e] X.env)=[(false,eval e X.env)]
structure M2 (X:Cx) (o:Expr) (m:Str) (apos:Pos) (e f:Expr) (cpos:Pos):Prop where
 base:attributeBase o m X.env (eval o X.env)=eval o X.env
 few:((backTo cpos (starEach [e,f] X.env)).all (fun x=>!x.1) && (backToKw cpos (keywordEach [] X.env)).all (fun x=>x.1.isSome)
  && decide (([e,f] : List Expr).length + ([] : List Keyword).length + (if ([] : List Keyword).isEmpty then 0 else 1) < 30))=true
 line:(apos.endLine == cpos.line)=true
 trees:backTo cpos (starEach [e,f] X.env)=[(false,eval e X.env),(false,eval f X.env)]
section
variable {X:Cx} {pins:List (Addr × Obj)} {σ:St} {H:Hp} {s:Shared} {a:Addr} {y d:V} {u r:Value} {o:Option V} {A:Around} {E:Value→Shared→Prop}
end
section
variable {X:Cx} {o e f:Expr} {apos cpos:Pos} {td ty tx:TE}
end
section
variable {X:Cx} {pins:List (Addr × Obj)} {σ:St} {H:Hp} {s:Shared} {a:Addr} {kvs:List (Key × V)} {A:Around} {E:Value→Shared→Prop}
end
section
variable {X:Cx} {pins:List (Addr × Obj)} {σ:St} {H:Hp} {s:Shared} {a:Addr} {y:V} {u:Value} {A:Around} {E:Value→Shared→Prop}
end
end L2
namespace Att
open PySem PySem.W PySem.Calls PyProof.Rows
theorem zdM {P:Params} {h:Heap}:∀ (ns:List Int) (vs:List Value),WellAll P h vs (ns.map WData.int)→IntsAre vs ns:=by
 intro ns
 induction ns with
 | nil =>
  intro vs w
  rw [List.map_nil] at w
  cases w
  exact .nil
 | cons n ns ih =>
  intro vs w
  rw [List.map_cons] at w
  cases w with
  | cons a b =>
   cases a
   exact .cons _ _ (ih _ b)
theorem zhX {l:OpenLaw} {n:Nat} (hn:l.most=some n) {P:Params} {h:Heap} {args:List WData} {vals:List Value}
  (hpre:l.row.toRowW.claim.pre args=true) (hwl:WellAll P h vals args) :
  ∃ a vs ns,vals=[Value.ref a]∧args=[WData.list (ns.map WData.int)]∧h.get? a=some { cls := .type "list",data := .seq vs.toArray }∧IntsAre vs ns∧ns.length ≤ n:=by
 have hsh:WShape.hasAll [] args [.list .int]=true:=(pre_splitW hpre).1
 have hc:l.pre.holds [] { args:=args }=true:=(pre_splitW hpre).2
 obtain ⟨d,r,rfl,h1,h2⟩:=hasAllW_cons hsh
 obtain rfl:=hasAllW_nil h2
 obtain ⟨xs,rfl,h3⟩:=hasW_list h1
 obtain ⟨ns,rfl⟩:=items_int h3
 have hlen:ns.length ≤ n:=by
  unfold OpenLaw.pre at hc
  have h4:(WTm.not (.lt (.lit (.int (n:Int))) (.len (.arg 0)))).holds [] { args:=[.list (ns.map .int)] }=true:=by
   have h4:=(holds_andW hc).1
   rw [hn] at h4
   exact h4
  have h5:=condW_of h4 (w_not (w_lt w_lit (w_len_list (w_arg rfl))))
  rw [List.length_map] at h5
  refine Nat.le_of_not_lt fun q=>?_
  have q':(n:Int) < ((ns.length:Nat):Int):=by omega
  first
   | (rw [decide_eq_true q'] at h5;exact absurd h5 (by decide))
   | (simp at h5;omega)
 cases hwl with
 | cons w1 w2 =>
  cases w2
  cases w1 with
  | list ho hall=>exact ⟨_,_,ns,rfl,rfl,ho,zdM ns _ hall,hlen⟩
theorem zij (l:OpenLaw) (args:List WData):l.row.toRowW.claim.post args (.bool true) args=true :=
 postW_of (r:=l.row.toRowW) (X:=(true == true))
  (show WShape.has [] (.bool true) .bool=true by first | rfl | decide | simp [WShape.has,WShape.arms,WShape.armsAll])
  (show (WTm.eq .res (.lit (.bool true))).value [] { args:=args,res:=some (.bool true),after:=args }=some (.bool (true == true)) from w_eq_bool (w_res rfl) w_lit) rfl
theorem zge {l:OpenLaw} {n:Nat} {q:Program} {loose:List Str} {XP:(Str→Option Value)→Heap→Prop} {YP:World→Heap→Prop} {d:DefRec}
  (hn:l.most=some n) (hdf:d.params.defaults=[])
  (call:∀ (w:World) (s₀ s₁:Shared) (mg mb:Str→Option Value) (fa:Addr) (o:Obj) (pm cd doc:Value) (a:Addr) (vs:List Value) (ns:List Int),
   Ground q loose [] XP w s₀ mg mb s₁.heap→YP w s₁.heap →
   s₁.heap.get? fa=some o→o.data = .func (docDef d.name d.params d.body d.scope pm cd doc)→s₁.heap.CodeRec cd d.name→mg d.name=some (.ref fa) →
   s₁.heap.get? a=some { cls := .type "list",data := .seq vs.toArray }→IntsAre vs ns→ns.length ≤ n→s₁.gens = #[] →
   codeAny (model l.prog w) callerA (.call (.ref fa) ⟨[.ref a],[]⟩) (fun r s'=>r = .ok (.ret (.bool true))∧OldK s₁.heap s'.heap∧s'.os=s₁.os∧AllBare s'.gens) s₁) :
  WalkO q loose XP YP l.row.toRowW d [] (fun f vs=>PySem.call f vs):=by
 intro w s₀ s₁ mg mb G Y fa o pm cd doc dV kV ho hd hcd hD hmg hg args vals as hpre hlay hrd hwl hlo
 obtain rfl:dV = .none:=Dflts.none hD hdf
 obtain rfl:kV = .none:=Dflts.noKw hD
 obtain ⟨a,vs,ns,rfl,rfl,hobj,hints,hlen⟩:=zhX hn hpre hwl
 refine enter_call (codeAny_mono (call w s₀ s₁ mg mb fa o pm cd doc a vs ns G Y ho (fd_plain hd) hcd hmg hobj hints hlen hg) fun r s' hq=>?_)
 obtain ⟨rfl,h2,h3,h4⟩:=hq
 exact ⟨.inl ⟨.bool true, .bool true,[],rfl,fun _=>rfl, .bool true,zij l _,fun _=>⟨List.Pairwise.nil,fun _ hm=>(nomatch hm)⟩⟩,h2,h3,h4⟩
section
variable {prog:Program} {w:World} {A:Around} {E:Value→Shared→Prop} {s:Shared} {K:Frag}
def ledger (h:Heap) (L d:Addr):List (Addr × Obj):=(List.range h.objs.size).filterMap fun a=>if a=L∨a=d then none else (h.get? a).map fun o=>(a,o)
end
end Att
namespace L2
open PySem PySem.Spec PyProof.Rows
theorem ze7:∀ {vs:List Value} {ns:List Int},IntsAre vs ns→Vals (ns.map V.int) vs
 | _,_, .nil => .nil
 | _,_, .cons n t h => .cons ⟨t,rfl⟩ (ze7 h)
def Only (H:Hp):Prop:=∀ b,H b=none∨∃ o xs,H b=some (.frz o (.lst xs))
theorem ziV {P:Program} {w:World} {K:PySem.W.Frag} {mg mb:Str→Option Value} {CX:CXT} {k:Nat} {fa a:Addr} {fd:FuncData} {x:Str} {sp:Sp} {s₁:Shared} {vs:List Value} {ns:List Int}
  (KX:K.In s₁.heap) (hns:s₁.heap.Ns mainGlobals mg) (hb:s₁.heap.Ns builtinsNs mb) (hbb:∀ x:Str,x ≠ "__name__"→mb x=bootBuiltins x) (hlim:s₁.heap.NoLimit) (hg:s₁.gens = #[])
  (ha:s₁.heap.get? a=some { cls := .type "list",data := .seq vs.toArray }) (hi:IntsAre vs ns) (hl:ns.length ≤ sizeLine) (hr:Room k callerA)
  (F:∀ base:Heap,K.In base→base.Ns mainGlobals mg→FnOk P w K mg base CX k fa fd [x] sp) (hbind:∀ (s:Shared) (u:Value),BindsTo s fd ⟨[u],[]⟩ [(x,u)])
  (hsp:∀ H:Hp,Only H→SqL K H a (ns.map V.int)→sp [.ref a] H (fun v _=>v = .bl true) fun _ _ _=>False)
  (hCX:∀ H e s',CX [] H s₁ (fun _ _ _=>False) e s'→False) :
  codeAny (model P w) callerA (.call (.ref fa) ⟨[.ref a],[]⟩) (fun r s'=>r = .ok (.ret (.bool true))∧OldK s₁.heap s'.heap∧s'.os=s₁.os∧AllBare s'.gens) s₁:=by
 have rv:=ze7 hi
 have lenV:=hi.length
 have core:∀ H:Hp,Only H→SqL K H a (ns.map V.int)→HOk P w H s₁.heap→(∀ b,H b ≠ none→b=a)→(H a ≠ none→K.lookup a=none) →
   codeAny (model P w) callerA (.call (.ref fa) ⟨[.ref a],[]⟩) (fun r s'=>r = .ok (.ret (.bool true))∧OldK s₁.heap s'.heap∧s'.os=s₁.os∧AllBare s'.gens) s₁:=by
  intro H hO hS hok hA hK
  have base_of:∀ {b:Addr} {o:Obj},s₁.heap.get? b=some o→H b=none→(hidT s₁.heap H).get? b=some o:=fun e n=>zjq e n
  have noA:∀ {b:Addr} {o:Obj} {es:Array DictEntry} {ep:Nat},s₁.heap.get? b=some o→o.data = .dict es ep→H b=none:=fun {b o es ep} e d=>by
   cases q:H b with
   | none=>rfl
   | some u =>
    have e':b=a:=hA b (by rw [q];simp)
    subst e'
    rw [ha] at e;cases e
    have d':Data.seq vs.toArray _=Data.dict es ep:=d
    cases d'
  have nsK:∀ {b:Addr} {m:Str→Option Value},s₁.heap.Ns b m→(hidT s₁.heap H).Ns b m:=fun {b m} ⟨o,es,ep,e,d,r⟩=>⟨o,es,ep,base_of e (noA e d),d,r⟩
  have hKb:K.In (hidT s₁.heap H):=fun b o e=>base_of (KX b o e) (by
   cases q:H b with
   | none=>rfl
   | some u =>
    have e':b=a:=hA b (by rw [q];simp)
    subst e'
    rw [hK (by rw [q];simp)] at e;cases e)
  have hM:Mod K mg (hidT s₁.heap H):=⟨hKb,nsK hns,⟨mb,nsK hb,hbb⟩,let ⟨mc,h1,h2⟩:=hlim; ⟨mc,nsK h1,h2⟩⟩
  have e0:Env0 P w K mg (hidT s₁.heap H) callerA [] s₁ H:=⟨rfl,hM,fun b o e=>zko e,Nat.le_of_eq (zif _ _),trivial,fun b hb=>absurd (show b ∈ ([] : List Addr) from hb) (by simp),hok, .of_eq hg⟩
  refine codeAny_mono ((F _ hKb (nsK hns)).run callerA [] s₁ H ⟨[.ref a],[]⟩ [.ref a] [.ref a] _ _ hr e0 (hbind s₁ (.ref a)) (.cons rfl .nil) (hsp H hO hS)) fun r s' h=>?_
  cases r with
  | error e=>exact (hCX H e s' h).elim
  | ok fl =>
   cases fl with
   | next=>exact False.elim h
   | brk=>exact False.elim h
   | cont=>exact False.elim h
   | ret u =>
    obtain ⟨v,H',os,bare,un,hok',r',q⟩:=h
    have q':v = .bl true:=q
    subst q'
    obtain rfl:u=Value.bool true:=r'
    refine ⟨rfl,OldK.of_keep fun b o e=>?_,os,bare⟩
    cases q:H b with
    | none=>exact un.keep b o e q (by intro z;exact absurd (show b ∈ ([] : List Addr) from z) (by simp)) (by simp)
    | some u =>
     rcases hO b with z | ⟨ob,xs,z⟩
     ·rw [q] at z;cases z
     ·have z2:=un.frzs b ob _ z
      obtain ⟨e1,_⟩:=hok b _ z
      obtain ⟨e2,_⟩:=hok' b _ z2
      rw [e] at e1;cases e1
      exact e2
 cases hk:K.lookup a with
 | some o =>
  have e:=KX a o hk
  rw [ha] at e
  cases e
  refine core (fun _=>none) (fun _ => .inl rfl) (.inr ⟨_,vs.toArray,_,hk,rfl,rfl,rfl,by rw [List.size_toArray,lenV];exact hl,by simpa using rv⟩) (fun b u z=>by have z':(none:Option HO)=some u:=z;cases z') (fun b z=>absurd rfl z) fun z=>absurd rfl z
 | none =>
  refine core (fun b=>if b=a then some (.frz { cls := .type "list",data := .seq vs.toArray } (.lst (ns.map V.int))) else none) (fun b=>?_) (.inl (.inr ⟨{ cls := .type "list",data := .seq vs.toArray },if_pos rfl⟩)) (fun b u z=>?_) (fun b z=>?_) fun _=>hk
  ·by_cases hb:b=a
   ·exact .inr ⟨_,_,if_pos hb⟩
   ·exact .inl (if_neg hb)
  ·by_cases hb:b=a
   ·have z':=(if_pos hb).symm.trans z
    cases z'
    subst hb
    exact ⟨ha,by rw [List.length_map];exact hl,vs,_,rv,ha⟩
   ·have z':=(if_neg hb).symm.trans z
    cases z'
  ·by_cases hb:b=a
   ·exact hb
   ·exact absurd (if_neg hb) z
end L2
namespace L2
open PySem PySem.Spec PyProof.Rows
theorem zkq {l:PySem.W.OpenLaw} {n k:Nat} {q:Program} {loose:List Str} {XP:(Str→Option Value)→Heap→Prop} {YP:World→Heap→Prop} {d:DefRec} {K:Params→PySem.W.Frag} {CX:World→CXT} {sp:World→Sp} {x:Str}
  (hn:l.most=some n) (hn2:n ≤ sizeLine) (hdf:d.params.defaults=[]) (hr:Room k callerA)
  (hY:∀ (w:World) (h:Heap),YP w h→(K w.params).In h)
  (F:∀ (w:World) (mg:Str→Option Value) (fa:Addr) (h:Heap),(K w.params).In h→h.Ns mainGlobals mg→mg d.name=some (.ref fa) →
   ∃ fd:FuncData,(∀ (s:Shared) (u:Value),BindsTo s fd ⟨[u],[]⟩ [(x,u)]) ∧
    ∀ base:Heap,(K w.params).In base→base.Ns mainGlobals mg→FnOk l.prog w (K w.params) mg base (CX w) k fa fd [x] (sp w))
  (hsp:∀ (w:World) (H:Hp) (a:Addr) (ns:List Int),ns.length ≤ n→Only H→SqL (K w.params) H a (ns.map V.int)→sp w [.ref a] H (fun v _=>v = .bl true) fun _ _ _=>False)
  (hCX:∀ (w:World) (H:Hp) (s:Shared) (e:Value) (s':Shared),CX w [] H s (fun _ _ _=>False) e s'→False) :
  PySem.W.WalkO q loose XP YP l.row.toRowW d [] (fun f vs=>PySem.call f vs):=by
 refine Att.zge hn hdf fun w s₀ s₁ mg mb fa o pm cd doc a vs ns G Y ho hd hcd hmg hobj hints hlen hg=>?_
 have KX:=hY w _ Y
 obtain ⟨fd,hb,hF⟩:=F w mg fa _ KX G.T.g hmg
 exact ziV KX G.T.g G.T.b G.T.builtins G.T.nolimit hg hobj hints (Nat.le_trans hlen hn2) hr hF hb (fun H hO hS=>hsp w H a ns hlen hO hS) fun H e s'=>hCX w H s₁ e s'
end L2
namespace L2
open PySem PySem.Spec PyProof.Rows
def zap (s:Stmt):Arguments:=match s with
 | .FunctionDef _ a _ _ _ _ _ _ _ _=>a
 | _=>{ posonlyargs:=[],args:=[],vararg:=none,kwonlyargs:=[],kw_defaults:=[],kwarg:=none,defaults:=[] }
def zag (s:Stmt):List Stmt:=match s with
 | .FunctionDef _ _ b _ _ _ _ _ _ _=>b
 | _=>[]
def zaa (s:Stmt):Scope:=match s with
 | .FunctionDef _ _ _ _ _ _ sc _ _ _=>sc
 | _=>{ kind := .function,names:=[],isGenerator:=false,isCoroutine:=false }
abbrev CX0:CXT:=fun _ _ _ _ _ _=>False
abbrev E0:XK:=fun _ _ _=>False
theorem znK {X:Cx}:Passes CX0 X E0:=fun _ _ _ _ _ _ _ h=>h.elim
structure Fun (K:PySem.W.Frag) (x qual:Str) (st:Stmt) (f:Addr) (fd:FuncData):Prop where
 ex:∃ (oc:Value) (od:Option Addr) (kV doc pm:Value) (an:Option Addr) (cdv ct:Value) (osl:Array (Option Value)),
  fd=PySem.W.fnOf x qual (zap st) (zag st) (zaa st) .none kV doc pm an cdv ct∧K.lookup f=some ⟨oc,od, .func fd,osl⟩∧PySem.W.codeIn K cdv qual=true
 kp:PySem.W.keepIn K (.ref f)=true
section
variable {P:Program} {w:World} {K:PySem.W.Frag} {mg:Str→Option Value} {base:Heap}
theorem Fun.ok {x qual:Str} {st:Stmt} {f:Addr} {fd:FuncData} {N ps:List Str} {k:Nat} {sp:Sp} (F:Fun K x qual st f fd) (S:zao N ps (zaa st)) (len:∀ vs H Q E,sp vs H Q E→vs.length=ps.length)
  (hbody:∀ (cdv:Value) (A:Around) (outer:List Env) (s:Shared) (H:Hp) (vs:List V) (Q:VK) (E:XK),Room k (A.deeper (envOfC qual (zaa st) s.heap.objs.size f cdv))→sp vs H Q E →
   ∃ t,PSs (cxOf CX0 P w K mg base N qual (zaa st) f cdv A outer s H E).nox (zag st) t∧t { nx:=fun _ H'=>Q .non H',rt:=Q } (start N vs) H):FnOk P w K mg base CX0 (k + 1) f fd ps sp:=by
 obtain ⟨oc,od,kV,doc,pm,an,cdv,ct,osl,rfl,lk,hcd⟩:=F.ex
 refine zi7 lk hcd S len fun A outer s H vs Q E hr hsp=>?_
 obtain ⟨t,h,q⟩:=hbody cdv A outer s H vs Q E hr hsp
 exact ⟨t,h.nox,q⟩
theorem Fun.binds {x qual:Str} {st:Stmt} {f:Addr} {fd:FuncData} {ps:List Str} (F:Fun K x qual st f fd)
  (h:∀ (kV doc pm:Value) (an:Option Addr) (cdv ct:Value) (us:List Value),us.length=ps.length→bindArgs (PySem.W.fnOf x qual (zap st) (zag st) (zaa st) .none kV doc pm an cdv ct) ⟨us,[]⟩ = pure (ps.zip us)):Binds K fd ps []:=by
 obtain ⟨oc,od,kV,doc,pm,an,cdv,ct,osl,rfl,lk,hcd⟩:=F.ex
 exact .all (h kV doc pm an cdv ct)
theorem zjN {x qual:Str} {st:Stmt} {f:Addr} {oc:Value} {od an:Option Addr} {osl:Array (Option Value)} {kV doc pm cdv ct:Value} (l:K.lookup f=some ⟨oc,od, .func (PySem.W.fnOf x qual (zap st) (zag st) (zaa st) .none kV doc pm an cdv ct),osl⟩)
  (c:PySem.W.codeIn K cdv qual=true) (k:PySem.W.keepIn K (.ref f)=true):Fun K x qual st f (PySem.W.fnOf x qual (zap st) (zag st) (zaa st) .none kV doc pm an cdv ct):=⟨⟨oc,od,kV,doc,pm,an,cdv,ct,osl,rfl,l,c⟩,k⟩
end
section
variable {X:Cx}
end
def Same (H H':Hp):Prop:=∀ b o,H b=some o→H' b=some o
theorem Same.refl (H:Hp):Same H H:=fun _ _ h=>h
theorem Same.trans {H H1 H2:Hp} (a:Same H H1) (b:Same H1 H2):Same H H2:=fun c o h=>b c o (a c o h)
theorem Same.free {H H':Hp} (e:Same H H') {l:Addr} (h:H' l=Option.none):H l=Option.none:=by
 cases q:H l with
 | none=>rfl
 | some o =>
  rw [e l o q] at h
  cases h
theorem Same.seq {K:PySem.W.Frag} {H H':Hp} {a:Addr} {xs:List V} (e:Same H H') (h:SqL K H a xs):SqL K H' a xs:=by
 rcases h with (h | ⟨o,h⟩) | h
 ·exact .inl (.inl (e _ _ h))
 ·exact .inl (.inr ⟨o,e _ _ h⟩)
 ·exact .inr h
section
variable {κ:Type} [DecidableEq κ]
end
end L2
namespace L2
open PySem
theorem zgh (env:Env):∀ (names:List (Str × NameKind)) (cs:List (Str × Addr)),(∀ y ∈ names,y.2 = .free→∃ c,env.cells.lookup y.1=some c) →
  ∃ cl,(forIn names cs (fun (x:Str × NameKind) (cs:List (Str × Addr))=>(match x with | (name,kind)=>if (kind == NameKind.free)=true then (do let c ← cellOf env name;pure (ForInStep.yield ((name,c) :: cs))) else pure (ForInStep.yield cs))):Sem (List (Str × Addr)))=pure cl ∧
   (∀ x c,cl.lookup x=some c→cs.lookup x=some c∨env.cells.lookup x=some c)∧(∀ y ∈ names,y.2 = .free→∃ c,cl.lookup y.1=some c)∧(∀ x c,cs.lookup x=some c→∃ c',cl.lookup x=some c')
 | [],cs,_=>⟨cs,rfl,fun _ _ h => .inl h,fun _ h=>(nomatch h),fun _ c h=>⟨c,h⟩⟩
 | (n,k) :: r,cs,h=>by
  by_cases hk:k = .free
  ·subst hk
   obtain ⟨c,hc⟩:=h (n, .free) (List.mem_cons_self ..) rfl
   obtain ⟨cl,e,h1,h2,h3⟩:=zgh env r ((n,c) :: cs) fun y hy=>h y (List.mem_cons_of_mem _ hy)
   refine ⟨cl,?_,fun x d hd=>?_,fun y hy hf=>?_,fun x d hd=>?_⟩
   ·rw [List.forIn_cons]
    simp only [beq_self_eq_true,if_true,cellOf,hc,pure_bind]
    exact e
   ·rcases h1 x d hd with q | q
    ·rw [List.lookup_cons] at q
     split at q
     ·rename_i hx
      have hx':x=n:=by simpa using hx
      subst hx'
      exact .inr (hc.trans q)
     ·exact .inl q
    ·exact .inr q
   ·rcases List.mem_cons.mp hy with e' | e'
    ·subst e'
     exact h3 n c (by simp)
    ·exact h2 y e' hf
   ·by_cases hx:x=n
    ·subst hx
     exact h3 x c (by simp)
    ·have hb:(x == n)=false:=by simpa using hx
     exact h3 x d (by rw [List.lookup_cons,hb];exact hd)
  ·obtain ⟨cl,e,h1,h2,h3⟩:=zgh env r cs fun y hy=>h y (List.mem_cons_of_mem _ hy)
   have hb:(k == NameKind.free)=false:=by simpa using hk
   refine ⟨cl,?_,h1,fun y hy hf=>?_,h3⟩
   ·rw [List.forIn_cons]
    simp only [hb,Bool.false_eq_true,if_false,pure_bind]
    exact e
   ·rcases List.mem_cons.mp hy with e' | e'
    ·subst e';exact absurd hf hk
    ·exact h2 y e' hf
theorem zel {scope:Scope} {env:Env} (h:∀ y ∈ scope.names,y.2 = .free→∃ c,env.cells.lookup y.1=some c) :
  ∃ cl,closureFor scope env=pure cl∧(∀ x c,cl.lookup x=some c→env.cells.lookup x=some c)∧∀ y ∈ scope.names,y.2 = .free→∃ c,cl.lookup y.1=some c:=by
 obtain ⟨cl,e,h1,h2,_⟩:=zgh env scope.names [] h
 refine ⟨cl,?_,fun x c hc=>(h1 x c hc).resolve_left (by simp),h2⟩
 unfold closureFor
 refine Eq.trans (congrArg (fun m=>m >>= fun cs=>pure cs) e) ?_
 rfl
theorem zhC:typeLookup (.type "list_reverseiterator") "__len__" = pure none:=by rw [typeLookup_type,builtinLookup_eq_fast];kernel_rfl
theorem zi6:typeLookup (.type "list_reverseiterator") "__length_hint__" = pure (some (.builtin "list_reverseiterator.__length_hint__")):=by rw [typeLookup_type,builtinLookup_eq_fast];kernel_rfl
section
variable {prog:Program} {w:World} {A:Around} {E:Value→Shared→Prop} {s:Shared}
theorem zha {R:Result→Shared→Prop} {I l S:Addr} {items:Array Value} (res:Value) (c₀:Nat) (hh:A.handled=none) (hne:l ≠ I) (hSI:S ≠ I) (hSl:S ≠ l) (hit:s.heap.IsRevIter I l ((items.size:Int) - 1)) (hl:s.heap.IsList l items) (hn:items.size ≤ sizeLine)
  (hS:s.heap.get? S=some { cls := .type "list",data := .seq #[] c₀ })
  (hR:∀ h' tk acc' c',(∀ b o,b ≠ S→b ≠ I→s.heap.get? b=some o→h'.get? b=some o)→h'.get? S=some { cls := .type "list",dict:=none,data := .seq acc' c',slots:=#[] } →
   ItemsOf (fun i v=>items[items.size - 1 - i]? = some v) acc' items.size→R (.ok (.ret res)) { s with heap:=h',toks:=tk }) :
  wpAny (model prog w) A.in1 (Builtin.List.listExtendWith (.ref S) (.ref I) res)
   (fun fin s'=>match fin with | .done f=>R (.ok f) s' | .again c'=>c'.quiet=true∧codeAny (model prog w) A c' R s') (fun e s'=>R (.error e) s') s:=by
 have hSf:S ∉ [I,l]:=fun hm=>by
  rcases List.mem_cons.mp hm with e | hm
  ·exact hSI e
  ·exact hSl (List.mem_singleton.mp hm)
 have W:=(Walks.listRev (prog:=prog) (w:=w) (A:=A.in1) hh I l hne items).toS
 have e0:(items.size:Int) - 1 - ((0:Nat):Int)=(items.size:Int) - 1:=by omega
 have hst:(0:Nat) ≤ items.size∧s.heap.IsRevIter I l ((items.size:Int) - 1 - ((0:Nat):Int))∧s.heap.IsList l items:=⟨Nat.zero_le _,by rw [e0];exact hit,hl⟩
 unfold Builtin.List.listExtendWith
 refine wpAny_bind (wpAny_typeOf (T := "list_reverseiterator") hit.typeIs ?_)
 have h1:Builtin.List.listSameRef (.ref S) (.ref I)=false:=by simp [Builtin.List.listSameRef,hSI]
 have h2:(Value.type "list_reverseiterator" == Value.type "list")=false:=by decide
 have h3:(Value.type "list_reverseiterator" == Value.type "tuple")=false:=by decide
 simp only [h1,h2,h3,Bool.or_false,Bool.false_eq_true,if_false]
 refine wpAny_bind (wpAny_pyIter_revIter hit ?_)
 refine wpAny_bind (wpAny_holding ?_)
 unfold Builtin.List.listLengthHint
 refine wpAny_bind (wpAny_specialOf hit.typeIs zhC ?_)
 show wpAny _ A.in1 (specialOf (Value.ref I) (Str.ofString "__length_hint__") >>= _) _ _ _
 refine wpAny_bind (wpAny_specialOf hit.typeIs zi6 ?_)
 (generalize hid:("list_reverseiterator.__length_hint__" : String)=id0;(fail_if_success (clear hid id0));wp_delta;rw [show splitId id0=some ("list_reverseiterator", "__length_hint__") from by subst hid;decide +kernel];subst hid)
 refine wpAny_bind (wpAny_isInstance (b:=true) hit.typeIs (by rw [isSubtype_type];kernel_rfl) ?_)
 refine wpAny_pure ?_
 rw [if_neg (by decide)]
 refine wpAny_pure ⟨plainId_quiet F.plain_extend_loop _,codeAny_extend_loopS W hn S hSf res items.size 0 _ #[] c₀ rfl (Nat.zero_le _) hst hS (ItemsOf.nil _) fun s' acc' c' hm hS' hacc=>?_⟩
 rw [Moved.eq_with hm]
 refine hR s'.heap s'.toks acc' c' (fun b o hb hbI e=>hm.heap b o (fun hmem=>?_) e) hS' hacc
 ·rcases List.mem_cons.mp hmem with e' | hmem
  ·exact hb e'
  ·exact hbI (List.mem_singleton.mp hmem)
end
end L2
namespace L2
open PySem PySem.Spec PyProof.Rows
section
variable {prog:Program} {w:World} {A:Around} {R:Result→Shared→Prop} {s:Shared}
theorem zfy {elt target iter:Expr} {ifs:List Expr} {scope:Scope} {pos:Pos} {it acc:Value} {env:Env} (I:Nat→Shared→Prop)
  (turn:∀ n s,I n s→wpAny (model prog w) A (pyNext it) (fun r s₁=>match r with
   | none=>R (.ok .next) s₁
   | some v=>wpAny (model prog w) A (letOwnedTupleGo target it v) (fun _ s₁'=>wpAny (model prog w) A (assign target env v) (fun _ s₂ =>
     wpAny (model prog w) A (forIn ifs true fun c r=>if r=true then do let ok ← isTrue c env (eval c env);pure (ForInStep.yield ok) else pure (ForInStep.yield r)) (fun ok s₃ =>
      if ok=true then wpAny (model prog w) A (eval elt env) (fun x s₄ =>
       wpAny (model prog w) A (call (.builtin "list.append") [acc,x]) (fun _ s₅=>∃ m,m < n∧I m s₅) (fun _ _=>False) s₄) (fun _ _=>False) s₃
      else ∃ m,m < n∧I m s₃) (fun _ _=>False) s₂) (fun _ _=>False) s₁') (fun _ _=>False) s₁) (fun _ _=>False) s)
  (n:Nat) (h:I n s) :
  codeAny (model prog w) A (.compLoop (.ListComp elt [⟨target,iter,ifs,0⟩] scope pos) 0 it acc env) R s:=by
 refine codeAny_loop rfl I (fun n s hI=>?_) n h
 show wpAny _ A ((compTurn (.ListComp elt [⟨target,iter,ifs,0⟩] scope pos) 0 it acc env).onRaise (fun x=>do noteFrame x env;theTreesLotGoes x)) _ _ s
 refine wpAny_noted ?_
 rw [compTurn_list]
 refine wpAny_bind (wpAny_standAt (wpAny_bind (wpAny_mono (turn n s hI) (fun r s₁ h₁=>?_) fun _ _ h'=>h'.elim)))
 cases r with
 | none=>exact wpAny_pure h₁
 | some v =>
  refine wpAny_bind (wpAny_mono h₁ (fun _ s₁' h₁'=>?_) fun _ _ h'=>h'.elim)
  refine wpAny_bind (wpAny_mono h₁' (fun _ s₂ h₂=>wpAny_bind (wpAny_mono h₂ (fun ok s₃ h₃=>?_) fun _ _ h'=>h'.elim)) fun _ _ h'=>h'.elim)
  cases ok with
  | false=>exact wpAny_pure ⟨rfl,h₃⟩
  | true =>
   exact wpAny_bind (wpAny_bind (wpAny_mono h₃ (fun x s₄ h₄=>wpAny_bind (wpAny_mono h₄ (fun _ s₅ h₅=>wpAny_pure (wpAny_pure ⟨rfl,h₅⟩)) fun _ _ h'=>h'.elim)) fun _ _ h'=>h'.elim))
end
def PIf (X:Cx) (ifs:List Expr) (t:TT):Prop :=
 ∀ (pins:List (Addr × Obj)) (s:Shared) (σ:St) (H:Hp) (Q:Bool→Hp→Prop),Inv X pins σ H s→t σ H Q →
  wpAny (model X.prog X.w) X.A (forIn ifs true fun c r=>if r=true then do let ok ← isTrue c X.env (eval c X.env);pure (ForInStep.yield ok) else pure (ForInStep.yield r)) (TP X pins σ Q) X.xe s
def tYes:TT:=fun _ H Q=>Q true H
theorem zlb {X:Cx}:PIf X [] tYes:=fun _ _ _ H _ I h=>wpAny_tests_nil ⟨H,I,h⟩
def lcCx (X:Cx) (scope:Scope) (ls:List Str) (js:List Nat) (cl:List (Str × Addr)) (C:Addr) (s:Shared) (H:Hp) (fp:List Addr):Cx :=
 { X with N:=ls ++ js.map (fun j=>X.N.getD j Str.empty),s₀:=s,H₀:=H,env:=compEnvC scope cl C X.env,outer:=X.stack,ex:=fp,fn:=fun _=>false,xe:=fun _ _=>False }
def lcSt (ls:List Str) (js:List Nat) (σ:St):St:=ls.map (fun _=>none) ++ js.map (fun j=>(σ[j]?).join)
def gk (env:Env) (n:Str) (k:NameKind):NameKind:=if (k == NameKind.free && env.scope.kind == .function && env.kindOf n == some .cell)=true then .cell else k
theorem zgE (env:Env) (names:List (Str × NameKind)):(names.map fun (n,k)=>if (k == NameKind.free && env.scope.kind == .function && env.kindOf n == some .cell) then (n,NameKind.cell) else (n,k))=names.map fun p=>(p.1,gk env p.1 p.2):=by
 refine List.map_congr_left fun p _=>?_
 obtain ⟨n,k⟩:=p
 show (if (k == NameKind.free && env.scope.kind == .function && env.kindOf n == some .cell)=true then (n,NameKind.cell) else (n,k))=(n,gk env n k)
 unfold gk
 split <;> rfl
theorem zde (env:Env) (x:Str):∀ names:List (Str × NameKind),(names.map fun p=>(p.1,gk env p.1 p.2)).lookup x=(names.lookup x).map (gk env x)
 | []=>rfl
 | (n,k) :: r=>by
  rw [List.map_cons]
  cases hx:x == n with
  | true =>
   have e:x=n:=by simpa using hx
   subst e
   rw [List.lookup_cons,List.lookup_cons]
   simp
  | false =>
   rw [List.lookup_cons,List.lookup_cons]
   simp only [hx]
   exact zde env x r
theorem lookup_mem {x:Str} {k:NameKind}:∀ {names:List (Str × NameKind)},names.lookup x=some k→(x,k) ∈ names
 | [],h=>by simp at h
 | (n,k') :: r,h=>by
  rw [List.lookup_cons] at h
  cases hx:x == n with
  | true =>
   have e:x=n:=by simpa using hx
   subst e
   simp only [beq_self_eq_true] at h
   cases h
   exact List.mem_cons_self ..
  | false =>
   simp only [hx] at h
   exact List.mem_cons_of_mem _ (lookup_mem h)
theorem za6 {env:Env} {names:List (Str × NameKind)} {x:Str} (h:names.lookup x=some .free) :
  (names.map fun (n,k)=>if (k == NameKind.free && env.scope.kind == .function && env.kindOf n == some .cell) then (n,NameKind.cell) else (n,k)).lookup x=some .cell ∨
  (names.map fun (n,k)=>if (k == NameKind.free && env.scope.kind == .function && env.kindOf n == some .cell) then (n,NameKind.cell) else (n,k)).lookup x=some .free:=by
 rw [zgE,zde,h]
 show some (gk env x .free)=some .cell∨some (gk env x .free)=some .free
 unfold gk
 split
 ·exact .inl rfl
 ·exact .inr rfl
theorem zcz {env:Env} {names:List (Str × NameKind)} {x:Str} (hc:∀ y ∈ names,y.2 ≠ .cell)
  (h:(names.map fun (n,k)=>if (k == NameKind.free && env.scope.kind == .function && env.kindOf n == some .cell) then (n,NameKind.cell) else (n,k)).lookup x=some .cell ∨
   (names.map fun (n,k)=>if (k == NameKind.free && env.scope.kind == .function && env.kindOf n == some .cell) then (n,NameKind.cell) else (n,k)).lookup x=some .free):(x,NameKind.free) ∈ names:=by
 rw [zgE,zde] at h
 cases e:names.lookup x with
 | none=>rw [e] at h;rcases h with h | h <;> cases h
 | some k =>
  have hm:=lookup_mem e
  by_cases hk:k = .free
  ·rw [hk] at hm;exact hm
  ·rw [e] at h
   have hg:gk env x k=k:=by
    unfold gk
    have hb:(k == NameKind.free)=false:=by simpa using hk
    rw [hb]
    rfl
   have h':gk env x k = .cell∨gk env x k = .free:=h.imp (fun z=>Option.some.inj z) fun z=>Option.some.inj z
   rw [hg] at h'
   rcases h' with z | z
   ·exact absurd z (hc _ hm)
   ·exact absurd z hk
structure LcOk (X:Cx) (scope:Scope) (ls:List Str) (js:List Nat):Prop where
 kind:scope.kind = .function
 cell:∀ y ∈ scope.names,y.2 ≠ .cell
 names:∀ y ∈ scope.names,y.2 = .local→scope.names.lookup y.1=some .local
 free:∀ y ∈ scope.names,y.2 = .free→X.env.kindOf y.1=some .cell∨X.env.kindOf y.1=some .free
 cap:∀ j ∈ js,∃ x,X.N[j]? = some x∧scope.names.lookup x=some .free
section
variable {X:Cx} {pins:List (Addr × Obj)} {σ:St} {H:Hp} {s:Shared}
theorem zkd {scope:Scope} {ls:List Str} {js:List Nat} {cl:List (Str × Addr)} {C:Addr} {fp:List Addr} (L:LcOk X scope ls js) (I:Inv X pins σ H s)
  (h1:∀ x c,cl.lookup x=some c→X.env.cells.lookup x=some c) (h2:∀ y ∈ scope.names,y.2 = .free→∃ c,cl.lookup y.1=some c)
  {s':Shared} {H':Hp} (hC:s'.heap.objs.size ≤ C) (bs:∀ b o,X.base.get? b=some o→s'.heap.get? b=some o∧H' b=none) (bsz:X.base.objs.size ≤ s'.heap.objs.size)
  (funs:s'.heap.FunFrames X.base X.stack) (frf:∀ b ∈ frs X.stack,H' b=none)
  (exf:∀ b ∈ fp,b ≠ C∧∀ x c,X.env.cells.lookup x=some c→c ≠ b) (noex:∀ b o,X.base.get? b=some o→b ∉ fp) (exfs:∀ b ∈ fp,b ∉ frs X.stack) :
  (lcCx X scope ls js cl C s' H' fp).Ok where
 mod:=I.ok.mod
 kind:=L.kind
 glob:=I.ok.glob
 blt:=I.ok.blt
 above:=hC
 inj:=fun x y c a b=>I.ok.inj x y c (h1 x c a) (h1 y c b)
 has:=fun x hx=>h2 (x, .free) (zcz (env:=X.env) L.cell hx) rfl
 cab:=fun x c z=>by cases z
 hd:=I.ok.hd
 frames:=I.ok.frames
 stk := .inl rfl
 exf:=fun b hb=>⟨(exf b hb).1,fun x c e=>(exf b hb).2 x c (h1 x c e)⟩
 bs:=bs
 bsz:=bsz
 noex:=noex
 exfs:=exfs
 funs:=funs
 frf:=frf
theorem zjz {ls:List Str} {js:List Nat} {i:Nat} {v:V} (h:(lcSt ls js σ)[i]? = some (some v)):∃ k j,i=ls.length + k∧js[k]? = some j∧σ[j]? = some (some v):=by
 unfold lcSt at h
 by_cases hi:i < ls.length
 ·rw [List.getElem?_append_left (by simpa using hi),List.getElem?_map] at h
  cases e:ls[i]? with
  | none=>rw [e] at h;cases h
  | some y=>rw [e] at h;cases h
 ·rw [List.getElem?_append_right (by simpa using Nat.le_of_not_lt hi),List.getElem?_map,List.length_map] at h
  cases e:js[i - ls.length]? with
  | none=>rw [e] at h;cases h
  | some j =>
   rw [e] at h
   refine ⟨i - ls.length,j,by omega,e,?_⟩
   have h':(σ[j]?).join=some v:=Option.some.inj h
   cases q:σ[j]? with
   | none=>rw [q] at h';cases h'
   | some o =>
    rw [q] at h'
    exact congrArg some h'
def LcR (ls:List Str) (js:List Nat) (g:TG) (tc:TT) (te:TE) (σ:St) (Q:VK) (J:It) (H1:Hp):Prop:=∀ D,H1 D=none →
 ∃ W:Nat→Nat→St→Hp→Prop,(∃ m,W 0 m (lcSt ls js σ) (upd H1 D (.lst [])))∧∀ i m σ' H',W i m σ' H' →
  (J.stop i H'∧Q (.ref D) H')∨(J.go i H'∧∃ N:St→Hp→Prop,(∀ σ2 H2,N σ2 H2→∃ m',m' < m∧W (i + 1) m' σ2 H2) ∧
   ∀ x H2,J.yld i H' x H2→g x σ' H2 fun σ3 H3=>tc σ3 H3 fun c H4=>if c=true then te σ3 H4 fun y H5=>∃ ys,H5 D=some (.lst ys)∧ys.length < sizeLine∧N σ3 (upd H5 D (.lst (ys ++ [y]))) else N σ3 H4)
def tLC (ls:List Str) (js:List Nat) (wi:TI) (g:TG) (tc:TT) (te:TE):TE:=fun σ H Q=>wi σ H (LcR ls js g tc te σ Q)
theorem znD {elt tg iter:Expr} {ifs:List Expr} {scope:Scope} {pos:Pos} {ls:List Str} {js:List Nat} {wi:TI} {g:TG} {tc:TT} {te:TE} (hc:X.calm=true) (L:LcOk X scope ls js) (hi:PI X tg iter wi)
  (hb:∀ cl C s H fp,PG (lcCx X scope ls js cl C s H fp) tg g∧PIf (lcCx X scope ls js cl C s H fp) ifs tc∧PE (lcCx X scope ls js cl C s H fp) elt te)
  (hs:∀ x,foldedSetIterable iter X.env x=pure x:=by intro _;rfl):PE X (.ListComp elt [⟨tg,iter,ifs,0⟩] scope pos) (tLC ls js wi g tc te):=by
 intro pins s σ H Q I h
 obtain ⟨cl,hcl,hk1,hk2⟩:=zel (scope:=scope) (env:=X.env) fun y hy hf=>I.ok.has y.1 (L.free y hy hf)
 rw [eval_ListComp]
 refine wpAny_comprehension_free (use:=none) rfl hs hcl L.kind L.names (thn (hi pins s σ H _ I h) fun v s1 h1=>thn h1 fun itv s2 h2=>?_)
 obtain ⟨it,fp,tn,J,H1,e,I2,T,st2,f2,h2⟩:=h2
 subst e
 refine wpAny_newObj_type (wpAny_newFunctionEnv L.cell (by intro y hy;simp at hy) (fun h₁ hns₁ hsb₁=>?_) L.kind)
 dsimp only at hns₁ hsb₁ ⊢
 generalize hH2:s2.heap.push { cls := .type "list",dict:=none,data := .seq ([] : List Value).toArray }=G2 at hns₁ hsb₁ ⊢
 have hCz:G2.objs.size=s2.heap.objs.size + 1:=by rw [← hH2,Heap.size_push]
 have hD0:H1 s2.heap.objs.size=none:=I2.hok.fresh (Nat.le_refl _)
 have hC0:H1 G2.objs.size=none:=I2.hok.fresh (by omega)
 have hDC:s2.heap.objs.size ≠ G2.objs.size:=by omega
 have hG2D:G2.get? s2.heap.objs.size=some { cls := .type "list",dict:=none,data := .seq ([] : List Value).toArray }:=by rw [← hH2];exact Heap.get?_push_size _ rfl
 have keepG:∀ b o,s2.heap.get? b=some o→G2.get? b=some o:=fun b o e=>by rw [← hH2];exact Heap.get?_push_of_some _ e
 have I3:Inv X pins σ (upd H1 s2.heap.objs.size (.lst [])) { s2 with heap:=G2,toks:=s2.toks } :=
  I2.laid (t':=s2.toks) keepG (Nat.le_refl _) (show zbB X.prog X.w _ G2 _ (.lst []) from ⟨by simp,[],0, .nil,hG2D⟩)
 have keep1:∀ b o,G2.get? b=some o→h₁.get? b=some o:=fun b o e=>(hsb₁.2 b (Nat.ne_of_lt (Heap.lt_size e))).trans (Heap.get?_push_of_some _ e)
 have I4:Inv X pins σ (upd H1 s2.heap.objs.size (.lst [])) { s2 with heap:=h₁,toks:=s2.toks + 0 }:=I3.kept (h':=h₁) (t':=s2.toks + 0) keep1
 generalize hT:(H1,(⟨tg,iter,ifs,0⟩ : Comprehension))=junk
 clear hT junk
 have fpsz:∀ b ∈ fp,b < s2.heap.objs.size:=fun b hb=>by
  obtain ⟨o,e,_⟩:=T.obj 0 _ st2 b hb
  exact Heap.lt_size e
 have fpD:s2.heap.objs.size ∉ fp:=fun z=>Nat.lt_irrefl _ (fpsz _ z)
 have fpC:∀ b ∈ fp,b ≠ G2.objs.size:=fun b hb=>Nat.ne_of_lt (by rw [hCz];exact Nat.lt_succ_of_lt (fpsz b hb))
 have okC:(lcCx X scope ls js cl G2.objs.size { s2 with heap:=G2 } (upd H1 s2.heap.objs.size (.lst [])) fp).Ok:=by
  refine zkd L I3 hk1 hk2 (Nat.le_refl _) I3.bs (Nat.le_trans I3.ok.bsz I3.sz) I3.stack I3.zgl (fun b hb=>⟨fpC b hb,(f2 b hb).2.2.2.2.1⟩) (fun b o e hb=>?_) (fun b hb z=>?_)
  ·rcases (f2 b hb).2.2.2.1 with q | q
   ·exact I2.ok.noex b o e q
   ·exact absurd (Nat.lt_of_lt_of_le (Heap.lt_size (I2.ok.bs b o e).1) q) (Nat.lt_irrefl _)
  ·rcases List.mem_cons.mp (I3.zfg b z) with q | q
   ·exact (f2 b hb).2.1 q
   ·exact (f2 b hb).2.2.1 q
 have IC:Inv (lcCx X scope ls js cl G2.objs.size { s2 with heap:=G2 } (upd H1 s2.heap.objs.size (.lst [])) fp) [] (lcSt ls js σ) (upd H1 s2.heap.objs.size (.lst [])) { s2 with heap:=h₁,toks:=s2.toks + 0 }:=by
  refine ⟨okC,rfl,I4.bare,Un.kept keep1,⟨_,hns₁,fun i x v e1 e2 e3=>?_⟩,fun x c e=>I4.cell x c (hk1 x c e),?_,fun x c e=>I4.freeC x c (hk1 x c e),fun p hp=>?_,I4.hok,?_⟩
  ·obtain ⟨k,j,hi',hj,hσ⟩:=zjz e2
   obtain ⟨y,hy,hyf⟩:=L.cap j (List.mem_of_getElem? hj)
   have hxy:x=y:=by
    have e1':(ls ++ js.map (fun j=>X.N.getD j Str.empty))[i]? = some x:=e1
    rw [hi',List.getElem?_append_right (Nat.le_add_right ..),Nat.add_sub_cancel_left,List.getElem?_map,hj] at e1'
    have e1'':X.N.getD j Str.empty=x:=Option.some.inj e1'
    rw [← e1'',List.getD_eq_getElem?_getD,hy]
    rfl
   subst hxy
   have hkf:X.env.kindOf x=some .cell∨X.env.kindOf x=some .free:=by
    have hm:(x,NameKind.free) ∈ scope.names:=by
     have q:=zcz (env:=X.env) L.cell (za6 (env:=X.env) hyf)
     exact q
    exact L.free _ hm rfl
   obtain ⟨m,hn,hl⟩:=I4.loc
   obtain ⟨u,r,l⟩:=hl j x v hy hσ (hkf.elim (fun z => .inr (.inl z)) fun z => .inr (.inr z))
   refine ⟨u,r, .inr ⟨za6 (env:=X.env) hyf,?_⟩⟩
   rcases l with ⟨kl,_⟩ | ⟨_,c,hc',z⟩
   ·rcases hkf with q | q
    ·rw [q] at kl;cases kl
    ·rw [q] at kl;cases kl
   ·have hm:(x,NameKind.free) ∈ scope.names:=zcz (env:=X.env) L.cell (za6 (env:=X.env) hyf)
    obtain ⟨c',hc''⟩:=hk2 _ hm rfl
    have:=hk1 _ _ hc''
    rw [hc'] at this
    cases this
    exact ⟨c,hc'',z⟩
  ·show upd H1 s2.heap.objs.size (.lst []) G2.objs.size=none
   rw [zah (Ne.symm hDC)]
   exact hC0
  ·have hp':p ∈ X.pn:=by simpa [lcCx] using hp
   obtain ⟨e,n,ne,nf,d⟩:=I4.pin p (List.mem_append_left _ hp')
   obtain ⟨e3,_⟩:=I3.pin p (List.mem_append_left _ hp')
   refine ⟨e,n,?_,fun z=>?_,d⟩
   ·exact Nat.ne_of_lt (Heap.lt_size e3)
   ·rcases List.mem_cons.mp (I3.zfg p.1 z) with q | q
    ·exact ne q
    ·exact nf q
  ·simp [lcSt,lcCx]
 obtain ⟨hbG,hbI,hbE⟩:=hb cl G2.objs.size { s2 with heap:=G2 } (upd H1 s2.heap.objs.size (.lst [])) fp
 obtain ⟨W,⟨m0,w0⟩,turn⟩:=h2 s2.heap.objs.size hD0
 have st0:tn 0 h₁:=T.keep _ _ _ st2 fun b hb o e=>keep1 b o (keepG b o e)
 have frz:∀ {H':Hp},(∀ b ∈ fp,H' b=none)→∀ b ∈ fp,FpOk (lcCx X scope ls js cl G2.objs.size { s2 with heap:=G2 } (upd H1 s2.heap.objs.size (.lst [])) fp) [] H' b:=fun hn b hb=>by
  refine ⟨hn b hb,fpC b hb,fun z=>?_, .inl hb,fun x c e=>(f2 b hb).2.2.2.2.1 x c (hk1 x c e),fun p hp=>?_⟩
  ·rcases List.mem_cons.mp (I3.zfg b z) with q | q
   ·exact (f2 b hb).2.1 q
   ·exact (f2 b hb).2.2.1 q
  ·have hp':p ∈ X.pn:=by simpa [lcCx] using hp
   exact (f2 b hb).2.2.2.2.2 p (List.mem_append_left _ hp')
 have fr0:∀ b ∈ fp,(upd H1 s2.heap.objs.size (.lst [])) b=none:=fun b hb=>by
  rw [zah (show b ≠ s2.heap.objs.size from Nat.ne_of_lt (fpsz b hb))]
  exact (f2 b hb).1
 have loop:∀ s4:Shared,s4 = { s2 with heap:=h₁,toks:=s2.toks + 0 } →
   codeAny (model X.prog X.w) X.A (.compLoop (.ListComp elt [⟨tg,iter,ifs,0⟩] scope pos) 0 (.ref it) (.ref s2.heap.objs.size) (compEnvC scope cl G2.objs.size X.env))
    (compPost (model X.prog X.w) X.A X.xe none (EP X pins σ Q) (.ref s2.heap.objs.size) G2.objs.size) s4:=by
  rintro s4 rfl
  refine zfy (fun n s'=>∃ i σ' H',Inv (lcCx X scope ls js cl G2.objs.size { s2 with heap:=G2 } (upd H1 s2.heap.objs.size (.lst [])) fp) [] σ' H' s'∧tn i s'.heap∧(∀ b ∈ fp,H' b=none)∧W i n σ' H') ?_ m0 ⟨0,_,_,IC,st0,fr0,w0⟩
  rintro n s5 ⟨i,σ5,H5,I5,st5,fr5,w5⟩
  rcases turn i n σ5 H5 w5 with ⟨stop,qn⟩ | ⟨go,N,hN,step⟩
  ·refine thn (T.done (lcCx X scope ls js cl G2.objs.size { s2 with heap:=G2 } (upd H1 s2.heap.objs.size (.lst [])) fp) rfl rfl rfl hc i [] s5 σ5 H5 _ I5 (frz fr5) st5 stop) fun r s6 ⟨hr,I6⟩=>?_
   subst hr
   obtain ⟨m6,hn6,_⟩:=I6.loc
   refine ⟨m6,hn6,fun h' hsb=>⟨.ref s2.heap.objs.size,H5,?_,rfl,qn⟩⟩
   have un1:Un (frs X.stack) fp (upd H1 s2.heap.objs.size (.lst [])) H5 G2 s6.heap:=I6.base
   have un0:Un (frs X.stack) fp H1 (upd H1 s2.heap.objs.size (.lst [])) s2.heap G2:=Un.laid keepG (Nat.le_refl _) hD0
   have un:=un0.trans un1
   have neC:∀ b o,s2.heap.get? b=some o→b ≠ G2.objs.size:=fun b o e=>Nat.ne_of_lt (by rw [hCz];exact Nat.lt_succ_of_lt (Heap.lt_size e))
   have un':Un (frs X.stack) fp H1 H5 s2.heap h':=⟨fun b o e n a x=>(hsb.2 b (neC b o e)).trans (un.keep b o e n a x),fun b o e n a x=>by
    obtain ⟨sl,q⟩:=un.slot b o e n a x
    exact ⟨sl,(hsb.2 b (neC b o e)).trans q⟩,un.free,fun b o e x=>by
    obtain ⟨o',q⟩:=un.there b o e x
    exact ⟨o',(hsb.2 b (neC b o e)).trans q⟩,un.tups,un.frzs,un.tbls⟩
   have hok':HOk X.prog X.w H5 h':=fun b o e=>by
    refine (I6.hok b o e).stay (fun c u hc' q=>(hsb.2 c ?_).trans q) (fun _ q=>q) fun _ _ q=>q
    have hfree:H5 G2.objs.size=none:=I6.free
    rintro rfl
    rcases hc' with z | z
    ·subst z;rw [hfree] at e;cases e
    ·rw [hfree] at z;cases z
   refine I2.zmE (s':={ s6 with heap:=h' }) (ch:=fp) ?_ un' hok' I6.bare fun b hb=>⟨(f2 b hb).2.2.2.1,(f2 b hb).2.1,(f2 b hb).2.2.2.2.1,(f2 b hb).2.2.2.2.2⟩
   exact I6.os
  ·refine thn (T.item (lcCx X scope ls js cl G2.objs.size { s2 with heap:=G2 } (upd H1 s2.heap.objs.size (.lst [])) fp) rfl rfl rfl hc i [] s5 σ5 H5 _ I5 (frz fr5) st5 go) fun r s6 ⟨u,hr,h6⟩=>?_
   subst hr
   refine thn h6 fun _ s7 ⟨x,H7,I7,r7,y7,st7,fr7⟩=>?_
   have I7':=I7.pinned (frz fr7) (T.obj _ _ st7)
   refine thn (hbG _ s7 σ5 H7 x u _ I7' r7 (step x H7 y7)) fun _ s8 ⟨σ8,H8,I8,q8⟩=>?_
   refine thn (hbI _ s8 σ8 H8 _ I8 q8) fun ok s9 ⟨H9,I9,q9⟩=>?_
   have again:∀ {σa:St} {Ha:Hp} {sa:Shared},Inv (lcCx X scope ls js cl G2.objs.size { s2 with heap:=G2 } (upd H1 s2.heap.objs.size (.lst [])) fp) ([] ++ zeY fp s7.heap) σa Ha sa→N σa Ha →
     ∃ m,m < n∧∃ i σ' H',Inv (lcCx X scope ls js cl G2.objs.size { s2 with heap:=G2 } (upd H1 s2.heap.objs.size (.lst [])) fp) [] σ' H' sa∧tn i sa.heap∧(∀ b ∈ fp,H' b=none)∧W i m σ' H':=fun {σa Ha sa} Ia na=>by
    obtain ⟨m',hm,wa⟩:=hN σa Ha na
    refine ⟨m',hm,i + 1,σa,Ha,Ia.zdC,T.keep _ _ _ st7 fun b hb o e=>(Ia.pin (b,o) (List.mem_append_right _ (List.mem_append_right _ (zcB hb e)))).1,fun b hb=>?_,wa⟩
    obtain ⟨o,e,d⟩:=T.obj _ _ st7 b hb
    exact (Ia.pin (b,o) (List.mem_append_right _ (List.mem_append_right _ (zcB hb e)))).2.1
   cases ok with
   | false=>exact again I9 q9
   | true =>
    refine thn (hbE _ s9 σ8 H9 _ I9 q9) fun y s10 ⟨z,H10,I10,r10,ys,hD,hlt,nn⟩=>?_
    obtain ⟨zz,its,k,r,hl,e⟩:=I10.lstM hD
    refine call_meets F.slot_list_append ⟨_,e,rfl⟩ F.entry_list_append (F.args_list_append_2 _ _) (PySem.list_append s2.heap.objs.size its.toArray k y (by rw [List.size_toArray];omega)) ⟨e,?_⟩
    refine again (I10.lset (its':=its ++ [y]) (t':=s10.toks) hD e ?_ (r.append (.cons r10 .nil)) ?_) nn
    ·simp
    ·simp;omega
 exact codeAny_compStart_list (loop _ rfl) (T.self _ 0 _ _ _ st0 (loop _ rfl))
end
end L2
namespace L2
open PySem PySem.Spec PyProof.Rows
section
variable {X:Cx}
theorem zf2:zcm X (.builtin "isinstance") (fun xs H Q=>∃ x n t b,xs=[x, .ty n]∧TyOf X.K H x t∧PySem.W.kitOne X.K t (.type n)=some b∧Q (.bl b) H):=by
 intro pins s σ H xs us Q I r h
 obtain ⟨x,n,t,b,rfl,ty,e,q⟩:=h
 obtain ⟨u,v,rfl,rx,ry⟩:=vals2 r
 cases ry
 exact ziu I rx ty e fun tk=>⟨.bl b,H,I.tok tk,rfl,q⟩
end
inductive Dt where
 | int (i:Int) | bl (b:Bool) | str (x:Str) | non | tup (ds:List Dt) | lst (ds:List Dt)
def Den (K:PySem.W.Frag) (H:Hp):Nat→V→Dt→Prop
 | _,v, .int j=>v = .int j
 | _,v, .bl b=>v = .bl b
 | _,v, .str x=>v = .str x
 | _,v, .non=>v = .non
 | 0,_, .tup _=>False
 | 0,_, .lst _=>False
 | n + 1,v, .tup ds=>∃ a xs,v = .ref a∧SqT K H a xs∧Paired (Den K H n) xs ds
 | n + 1,v, .lst ds=>∃ a xs,v = .ref a∧SqL K H a xs∧Paired (Den K H n) xs ds
theorem Same.seqT {K:PySem.W.Frag} {H H':Hp} {a:Addr} {xs:List V} (e:Same H H') (h:SqT K H a xs):SqT K H' a xs:=by
 rcases h with (h | ⟨o,h⟩) | h
 ·exact .inl (.inl (e _ _ h))
 ·exact .inl (.inr ⟨o,e _ _ h⟩)
 ·exact .inr h
theorem Den.same {K:PySem.W.Frag} {H H':Hp} (e:Same H H'):∀ {n:Nat} {v:V} {d:Dt},Den K H n v d→Den K H' n v d:=by
 intro n
 induction n with
 | zero=>intro v d h;cases d <;> first | exact h | exact h.elim
 | succ n ih =>
  intro v d h
  cases d with
  | tup ds =>
   obtain ⟨a,xs,h1,h2,h3⟩:=h
   exact ⟨a,xs,h1,e.seqT h2,Paired.mapP h3 fun _ _ q=>ih q⟩
  | lst ds =>
   obtain ⟨a,xs,h1,h2,h3⟩:=h
   exact ⟨a,xs,h1,e.seq h2,Paired.mapP h3 fun _ _ q=>ih q⟩
  | int i=>exact h
  | bl b=>exact h
  | str x=>exact h
  | non=>exact h
theorem Paired.get {α β:Type} {F:α→β→Prop}:∀ {l₁:List α} {l₂:List β} {i:Nat} {a:α},Paired F l₁ l₂→l₁[i]? = some a→∃ b,l₂[i]? = some b∧F a b
 | _,_,_,_, .nil,e=>by simp at e
 | _,_,0,_, .cons r _,e=>by simp at e;subst e;exact ⟨_,rfl,r⟩
 | _,_,i + 1,x, .cons _ t,e=>by
  obtain ⟨u,h1,h2⟩:=Paired.get (i:=i) (a:=x) t (by simpa using e)
  exact ⟨u,by simpa using h1,h2⟩
section
variable {X:Cx} {pins:List (Addr × Obj)} {σ:St} {H:Hp} {s:Shared}
end
section
variable {X:Cx}
end
end L2
namespace L2
open PySem PySem.Spec PyProof.Rows
structure HasFn (K:PySem.W.Frag) (mg:Str→Option Value) (x:Str) (st:Stmt):Prop where
 ex:∃ f fd,mg x=some (.ref f)∧Fun K x x st f fd
theorem zaO {K:PySem.W.Frag} {h:Heap} {mg:Str→Option Value} {x:Str} {st:Stmt} {f:Addr} {oc:Value} {od an:Option Addr} {osl:Array (Option Value)} {kV doc pm cdv ct:Value} (X:K.In h) (G:h.Ns mainGlobals mg)
  (a:PySem.W.nsIn K mainGlobals x=some (some (.ref f))) (l:K.lookup f=some ⟨oc,od, .func (PySem.W.fnOf x x (zap st) (zag st) (zaa st) .none kV doc pm an cdv ct),osl⟩)
  (c:PySem.W.codeIn K cdv x=true) (k:PySem.W.keepIn K (.ref f)=true):HasFn K mg x st:=⟨⟨f,_,PySem.W.mg_of X G a,zjN l c k⟩⟩
structure Def (P:Program) (w:World) (K:PySem.W.Frag) (mg:Str→Option Value) (base:Heap) (x:Str) (k:Nat) (ps:List Str) (sp:Sp):Prop where
 ex:∃ f fd,FnOk P w K mg base CX0 k f fd ps sp∧mg x=some (.ref f)∧PySem.W.keepIn K (.ref f)=true∧Binds K fd ps []
theorem zlT {X:Cx} {k:Nat} {x:Str} {ps:List Str} {sp:Sp} {e:Expr} {es:List Expr} {t:TA} {p pos:Pos} (D:Def X.prog X.w X.K X.mg X.base x k ps sp) (hr:Room k X.A) (hg:Gl X x) (ha:PA X (e :: es) t)
  (hdb:(x == ("__debug__" : Str))=false:=by decide) (he:starEach (e :: es) X.env=(false,eval e X.env) :: starEach es X.env:=by rfl) (hpl:(backTo pos (starEach es X.env)).any (·.1)=false:=by rfl) :
  PE X (.Call (.Name x p) (e :: es) [] pos) (zmb sp [] E0 t):=by
 obtain ⟨f,fd,F,hm,hk,hb⟩:=D.ex
 exact zk2 F hr hg hm hk hb .nil znK ha hdb he hpl
theorem Def.of {P:Program} {w:World} {K:PySem.W.Frag} {mg:Str→Option Value} {base:Heap} {x:Str} {st:Stmt} {N ps:List Str} {k:Nat} {sp:Sp} (h:HasFn K mg x st) (S:zao N ps (zaa st))
  (bind:∀ (kV doc pm:Value) (an:Option Addr) (cdv ct:Value) (us:List Value),us.length=ps.length→bindArgs (PySem.W.fnOf x x (zap st) (zag st) (zaa st) .none kV doc pm an cdv ct) ⟨us,[]⟩ = pure (ps.zip us))
  (len:∀ vs H Q E,sp vs H Q E→vs.length=ps.length)
  (hbody:∀ (f:Addr) (cdv:Value) (A:Around) (outer:List Env) (s:Shared) (H:Hp) (vs:List V) (Q:VK) (E:XK),Room k (A.deeper (envOfC x (zaa st) s.heap.objs.size f cdv))→sp vs H Q E →
   ∃ t,PSs (cxOf CX0 P w K mg base N x (zaa st) f cdv A outer s H E).nox (zag st) t∧t { nx:=fun _ H'=>Q .non H',rt:=Q } (start N vs) H):Def P w K mg base x (k + 1) ps sp:=by
 obtain ⟨f,fd,hm,F⟩:=h.ex
 exact ⟨f,fd,F.ok S len (hbody f),hm,F.kp,F.binds bind⟩
theorem Same.new {H:Hp} {p:Addr} {o:HO} (h:H p=none):Same H (upd H p o):=fun b u e=>by rw [zah (zan e h)];exact e
def Kept (l:Addr) (H H':Hp):Prop:=∀ b o,b ≠ l→H b=some o→H' b=some o
theorem Kept.upd (l:Addr) (H:Hp) (o:HO):Kept l H (upd H l o):=fun b u hb e=>by rw [zah hb];exact e
theorem Same.kept {l:Addr} {H H':Hp} (h:Same H H'):Kept l H H':=fun b o _ e=>h b o e
theorem Kept.trans {l:Addr} {H H1 H2:Hp} (a:Kept l H H1) (b:Kept l H1 H2):Kept l H H2:=fun c o hc e=>b c o hc (a c o hc e)
theorem Kept.seqT {K:PySem.W.Frag} {l:Addr} {H H':Hp} {a:Addr} {xs ys:List V} (e:Kept l H H') (hl:H l=some (.lst ys)) (h:SqT K H a xs):SqT K H' a xs:=by
 rcases h with (h | ⟨o,h⟩) | h
 ·exact .inl (.inl (e _ _ (zlL h hl (by intro z;cases z)) h))
 ·exact .inl (.inr ⟨o,e _ _ (zlL h hl (by intro z;cases z)) h⟩)
 ·exact .inr h
def IsTI (K:PySem.W.Frag) (H:Hp) (v:V) (ns:List Int):Prop:=∃ p,v = .ref p∧SqT K H p (ns.map V.int)
theorem IsTI.same {K:PySem.W.Frag} {H H':Hp} {v:V} {ns:List Int} (e:Same H H') (h:IsTI K H v ns):IsTI K H' v ns:=let ⟨p,a,b⟩:=h; ⟨p,a,e.seqT b⟩
theorem IsTI.kept {K:PySem.W.Frag} {l:Addr} {H H':Hp} {v:V} {ns:List Int} {ys:List V} (e:Kept l H H') (hl:H l=some (.lst ys)) (h:IsTI K H v ns):IsTI K H' v ns:=let ⟨p,a,b⟩:=h; ⟨p,a,e.seqT hl b⟩
def Rows (K:PySem.W.Frag) (H:Hp) (xs:List V) (rs:List (List Int)):Prop:=Paired (IsTI K H) xs rs
theorem Rows.same {K:PySem.W.Frag} {H H':Hp} {xs:List V} {rs:List (List Int)} (e:Same H H') (h:Rows K H xs rs):Rows K H' xs rs:=Paired.mapP h fun _ _ q=>q.same e
theorem Rows.kept {K:PySem.W.Frag} {l:Addr} {H H':Hp} {xs ys:List V} {rs:List (List Int)} (e:Kept l H H') (hl:H l=some (.lst ys)) (h:Rows K H xs rs):Rows K H' xs rs:=Paired.mapP h fun _ _ q=>q.kept e hl
end L2
namespace L2
open PySem PySem.Spec PyProof.Rows
def TbAt (h₀ h:Heap) (H:Hp) (x:Addr) (vs:Array Value):Prop :=
 ∃ T oT ts,vs[1]? = some (.ref T)∧T ≠ x∧h₀.get? T=none∧H T=none∧h.get? T=some oT∧oT.data = .fields ts∧3 < ts.size
def ExAt (h₀ h:Heap) (H:Hp) (x:Addr) (cls:Value) (dx:Option Addr) (tb:Bool):Prop :=
 h₀.get? x=none∧H x=none∧∃ oe vs,h.get? x=some oe∧oe.cls=cls∧oe.dict=dx∧oe.data = .fields vs∧1 < vs.size∧((tb=false∧vs[1]? = some .none)∨TbAt h₀ h H x vs)
theorem ExAt.any {h₀ h:Heap} {H:Hp} {x:Addr} {cls:Value} {dx:Option Addr} {tb:Bool} (e:ExAt h₀ h H x cls dx tb):ExAt h₀ h H x cls dx false:=by
 obtain ⟨a,b,oe,vs,c1,c2,c3,c4,c5,c6⟩:=e
 exact ⟨a,b,oe,vs,c1,c2,c3,c4,c5,c6.imp (fun z=>⟨rfl,z.2⟩) id⟩
structure Top1 (X:Cx):Prop where
 stk:X.stack=X.env :: X.outer
 frm:X.env.frame=some X.env.locals
 pn:X.pn=[]
theorem Top1.mem {X:Cx} (t:Top1 X) {b:Addr}:b ∈ frs X.stack↔b=X.env.locals∨b ∈ X.fs:=by
 rw [t.stk]
 unfold frs
 rw [List.filterMap_cons,t.frm]
 exact List.mem_cons
section
variable {X:Cx} {σ:St} {H:Hp} {s:Shared}
theorem Inv.recs {h':Heap} {ch:List Addr} (I:Inv X [] σ H s) (t:Top1 X) (hch:∀ b ∈ ch,X.s₀.heap.get? b=none∧H b=none∧∃ o vs,s.heap.get? b=some o∧o.data = .fields vs)
  (keep:∀ b o,b ∉ frs X.stack→b ∉ ch→s.heap.get? b=some o→h'.get? b=some o) (slot:∀ b o,b ∈ frs X.stack→s.heap.get? b=some o→∃ sl,h'.get? b=some { o with slots:=sl }) :
  Inv X [] σ H { s with heap:=h' }:=by
 have ncell:∀ c v,s.heap.IsCell c v→c ∉ ch:=fun c v ⟨o,ho,hd⟩ hc=>by
  obtain ⟨_,_,o',vs,e,d⟩:=hch c hc
  rw [ho] at e;cases e
  rw [hd] at d;cases d
 have any:∀ b o,b ∉ ch→s.heap.get? b=some o→∃ sl,h'.get? b=some { o with slots:=sl }:=fun b o hc e=>by
  by_cases hb:b ∈ frs X.stack
  ·exact slot b o hb e
  ·exact ⟨o.slots,keep b o hb hc e⟩
 have cellK:∀ c v,s.heap.IsCell c v→h'.IsCell c v:=fun c v z=>by
  obtain ⟨o,ho,hd⟩:=id z
  obtain ⟨sl,e⟩:=any c o (ncell c v z) ho
  exact ⟨_,e,hd⟩
 have old:∀ b o,X.s₀.heap.get? b=some o→b ≠ X.env.locals∧b ∉ ch:=fun b o e =>
  ⟨Nat.ne_of_lt (Nat.lt_of_lt_of_le (Heap.lt_size e) I.ok.above),fun hc=>by rw [(hch b hc).1] at e;cases e⟩
 have nfr:∀ b,b ≠ X.env.locals→b ∉ X.fs→b ∉ frs X.stack:=fun b h1 h2 z=>(t.mem.mp z).elim h1 h2
 refine ⟨I.ok,I.os,I.bare,⟨fun b o e n hb hx=>?_,fun b o e n hb hx=>?_,I.base.free,fun b o e hx=>?_,I.base.tups,I.base.frzs,I.base.tbls⟩,?_,fun x c e=>?_,I.free,I.freeC,fun p hp=>?_,fun b u e=>?_,I.len⟩
 ·exact keep b o (nfr b (old b o e).1 hb) (old b o e).2 (I.base.keep b o e n hb hx)
 ·obtain ⟨sl,e1⟩:=I.base.slot b o e n hb hx
  obtain ⟨sl',e2⟩:=any b _ (old b o e).2 e1
  exact ⟨sl',e2⟩
 ·obtain ⟨o',e1⟩:=I.base.there b o e hx
  obtain ⟨sl,e2⟩:=any b o' (old b o e).2 e1
  exact ⟨_,e2⟩
 ·obtain ⟨m,hn,hl⟩:=I.loc
  obtain ⟨o,es,ep,ho,hd,r⟩:=id hn
  have hLc:X.env.locals ∉ ch:=fun hc=>by
   obtain ⟨_,_,o',vs,e,d⟩:=hch _ hc
   rw [ho] at e;cases e
   rw [hd] at d;cases d
  obtain ⟨sl,e⟩:=any _ o hLc ho
  refine ⟨m,⟨_,es,ep,e,hd,r⟩,fun i x v e1 e2 e3=>?_⟩
  obtain ⟨u,ru,l⟩:=hl i x v e1 e2 e3
  refine ⟨u,ru,?_⟩
  rcases l with l | ⟨k,c,ec,z⟩
  ·exact .inl l
  ·exact .inr ⟨k,c,ec,cellK c _ z⟩
 ·obtain ⟨v,z⟩:=I.cell x c e
  exact ⟨v,cellK c v z⟩
 ·rw [t.pn] at hp
  simp at hp
 ·refine (I.hok b u e).stay (fun c v hc q=>keep c v ?_ ?_ q) (fun _ q=>q) fun _ _ q=>q
  ·intro z
   have f:=I.zgl c z
   rcases hc with y | y
   ·rw [y,e] at f;cases f
   ·rw [y] at f;cases f
  ·intro z
   have f:=(hch c z).2.1
   rcases hc with y | y
   ·rw [y,e] at f;cases f
   ·rw [y] at f;cases f
variable {M:Model} {E:Value→Shared→Prop} {x:Addr} {cls:Value} {dx:Option Addr}
theorem ExAt.zjB (I:Inv X [] σ H s) {b:Addr} {o:Obj} {vs:Array Value} (e:s.heap.get? b=some o) (d:o.data = .fields vs):b ∉ frs X.stack:=fun hm=>by
 obtain ⟨_,o',ho,hnf⟩:=I.stack.mem hm
 rw [e] at ho;cases ho
 exact hnf vs d
theorem zgM (I:Inv X [] σ H s) (t:Top1 X) {oe:Obj} {vs:Array Value} {head:Value} {had:Bool} {Q:Unit→Shared→Prop} (hx0:X.s₀.heap.get? x=none) (hxH:H x=none) (he:s.heap.get? x=some oe) (hd:oe.data = .fields vs) (hsz:1 < vs.size)
  (q:∀ h',Inv X [] σ H { s with heap:=h' }→ExAt X.s₀.heap h' H x oe.cls oe.dict true→Q () { s with heap:=h' }) :
  wpAny M X.A (do let a ← frameOf X.env;let pl ← entryPlaceOf X.env.locals had;let b ← EntryCells.newEntry head a .none (rawInt X.env.locals) .none pl;setField (.ref x) 1 b) Q E s:=by
 have hfr:X.A.frames=some (X.env :: X.outer):=by rw [← t.stk];exact I.ok.frames
 have hl:s.heap.FunFrames X.base (X.env :: X.outer):=by rw [← t.stk];exact I.stack
 have hne:x ∉ frs X.stack:=ExAt.zjB I he hd
 have efr:(X.env :: X.outer).filterMap (·.frame)=frs X.stack:=by rw [t.stk];rfl
 refine wpAny_bind (wpAny_frameOf_fun hfr hl t.frm fun h1 s1=>wpAny_bind (wpAny_entryPlaceOf fun pl hpl=>?_))
 rw [efr] at s1
 unfold EntryCells.newEntry
 unfold newFields
 refine wpAny_bind (wpAny_newObj_type ?_ (hpl.sizeOk5 _ _ _ _ _))
 have he1:h1.get? x=some oe:=(s1.2.1 x hne).trans he
 generalize hto:({ cls := .type "traceback",dict:=none,data := .fields ([head, .ref X.env.locals, .none,rawInt X.env.locals, .none] ++ (if pl.isEmpty then List.replicate 6 Value.none else pl)).toArray }:Obj)=to
 have hte:∃ ts,to.data = .fields ts∧3 < ts.size:=⟨_,by rw [← hto],by simp only [List.size_toArray,List.length_append,List.length_cons,List.length_nil];omega⟩
 have htf:to.isFreed=false:=by rw [← hto];rfl
 have he2:(h1.push to).get? x=some oe:=Heap.get?_push_of_some _ he1
 have hTx:h1.objs.size ≠ x:=Nat.ne_of_gt (Heap.lt_size he1)
 refine wpAny_setField he2 hd hsz ?_
 have hd3:=Obj.data_mapFields hd (·.setIfInBounds 1 (Value.ref h1.objs.size))
 have he3:=Heap.get?_update_self (Obj.mapFields (·.setIfInBounds 1 (Value.ref h1.objs.size))) he2 (Obj.isFreed_of_fields hd3)
 have hT3:=(Heap.get?_update_other (h1.push to) (Obj.mapFields (·.setIfInBounds 1 (Value.ref h1.objs.size))) (Ne.symm hTx)).trans (Heap.get?_push_size h1 htf)
 have kp:∀ b o,b ≠ x→h1.get? b=some o→((h1.push to).update x (Obj.mapFields (·.setIfInBounds 1 (Value.ref h1.objs.size)))).get? b=some o:=fun b o hb e =>
  (Heap.get?_update_other _ _ (Ne.symm hb)).trans (Heap.get?_push_of_some _ e)
 have hT0:X.s₀.heap.get? h1.objs.size=none:=by
  cases e:X.s₀.heap.get? h1.objs.size with
  | none=>rfl
  | some o =>
   have h2:=Nat.lt_of_lt_of_le (Heap.lt_size e) I.sz
   rw [s1.1] at h2
   exact absurd h2 (Nat.lt_irrefl _)
 have hTH:H h1.objs.size=none:=by rw [s1.1];exact I.hok.fresh (Nat.le_refl _)
 refine q _ (I.recs t (ch:=[x]) (fun b hb=>?_) (fun b o hb hc e=>?_) fun b o hb e=>?_) ⟨hx0,hxH,_,_,he3,Obj.cls_mapFields _ _,?_,hd3,by simpa using hsz, .inr ⟨h1.objs.size,to,?_⟩⟩
 ·rw [List.mem_singleton.mp hb]
  exact ⟨hx0,hxH,oe,vs,he,hd⟩
 ·exact kp b o (fun z=>hc (by rw [z];exact List.mem_singleton.mpr rfl)) ((s1.2.1 b hb).trans e)
 ·obtain ⟨sl,e1⟩:=s1.2.2 b o e
  exact ⟨sl,kp b _ (fun z=>hne (z ▸ hb)) e1⟩
 ·obtain ⟨c,d,dt,sl⟩:=oe
  cases dt <;> rfl
 ·obtain ⟨ts,d1,d2⟩:=hte
  exact ⟨ts,by simp [hsz],hTx,hT0,hTH,hT3,d1,d2⟩
theorem zhv (I:Inv X [] σ H s) (t:Top1 X) {tb:Bool} {Q:Unit→Shared→Prop} (e:ExAt X.s₀.heap s.heap H x cls dx tb)
  (q:∀ h',Inv X [] σ H { s with heap:=h' }→ExAt X.s₀.heap h' H x cls dx true→Q () { s with heap:=h' }):wpAny M X.A (noteFrame (.ref x) X.env) Q E s:=by
 obtain ⟨hx0,hxH,oe,vs,he,rfl,rfl,hd,hsz,tb'⟩:=id e
 unfold noteFrame
 simp only [t.frm]
 rcases tb' with ⟨_,h1⟩ | ⟨T,oT,ts,h1,hTx,hT0,hTH,hT,hdT,h3⟩
 ·refine wpAny_bind (wpAny_field he hd h1 ?_)
  rw [if_neg (by decide)]
  exact zgM I t hx0 hxH he hd hsz q
 ·refine wpAny_bind (wpAny_field he hd h1 ?_)
  rw [if_pos (show (Value.ref T != Value.none)=true from by simp)]
  obtain ⟨v3,hv3⟩ : ∃ v3,ts[3]? = some v3:=⟨ts[3],Array.getElem?_eq_getElem h3⟩
  refine wpAny_bind (wpAny_field hT hdT hv3 ?_)
  by_cases hb:(v3 == rawInt X.env.locals)=true
  ·rw [if_pos hb]
   exact wpAny_pure (q s.heap I ⟨hx0,hxH,oe,vs,he,rfl,rfl,hd,hsz, .inr ⟨T,oT,ts,h1,hTx,hT0,hTH,hT,hdT,h3⟩⟩)
  ·rw [if_neg hb]
   refine wpAny_bind (wpAny_setField hT hdT h3 ?_)
   have oth:∀ b,b ≠ T→(s.heap.update T (Obj.mapFields (·.setIfInBounds 3 Value.none))).get? b=s.heap.get? b:=fun b hb=>Heap.get?_update_other _ _ (Ne.symm hb)
   have hTfr:T ∉ frs X.stack:=ExAt.zjB I hT hdT
   have I1:Inv X [] σ H { s with heap:=s.heap.update T (Obj.mapFields (·.setIfInBounds 3 Value.none)) }:=I.recs t (ch:=[T]) (fun b hb=>by
    rw [List.mem_singleton.mp hb]
    exact ⟨hT0,hTH,oT,ts,hT,hdT⟩) (fun b o _ hc e=>(oth b (fun z=>hc (by rw [z];exact List.mem_singleton.mpr rfl))).trans e) fun b o hb e=>⟨o.slots,(oth b (fun z=>hTfr (z ▸ hb))).trans e⟩
   exact zgM I1 t hx0 hxH ((oth x (Ne.symm hTx)).trans he) hd hsz q
theorem zfn {A:Around} (I:Inv X [] σ H s) (t:Top1 X) {fo:Option Addr} {Q:Unit→Shared→Prop} (e:ExAt X.s₀.heap s.heap H x cls dx true)
  (q:∀ h',Inv X [] σ H { s with heap:=h' }→ExAt X.s₀.heap h' H x cls dx true→Q () { s with heap:=h' }):wpAny M A (setFlight (.ref x) fo) Q E s:=by
 obtain ⟨hx0,hxH,oe,vs,he,rfl,rfl,hd,hsz,tb'⟩:=id e
 rcases tb' with ⟨z,_⟩ | ⟨T,oT,ts,h1,hTx,hT0,hTH,hT,hdT,h3⟩
 ·cases z
 unfold setFlight
 refine wpAny_bind (wpAny_field he hd h1 ?_)
 rw [if_pos (show (Value.ref T != Value.none)=true from by simp)]
 refine wpAny_setField hT hdT h3 ?_
 generalize (fo.elim Value.none fun f=>rawInt f)=fv
 have oth:∀ b,b ≠ T→(s.heap.update T (Obj.mapFields (·.setIfInBounds 3 fv))).get? b=s.heap.get? b:=fun b hb=>Heap.get?_update_other _ _ (Ne.symm hb)
 have hTfr:T ∉ frs X.stack:=ExAt.zjB I hT hdT
 have hd3:=Obj.data_mapFields hdT (·.setIfInBounds 3 fv)
 refine q _ (I.recs t (ch:=[T]) (fun b hb=>?_) (fun b o _ hc e=>(oth b (fun z=>hc (by rw [z];exact List.mem_singleton.mpr rfl))).trans e) fun b o hb e=>⟨o.slots,(oth b (fun z=>hTfr (z ▸ hb))).trans e⟩)
  ⟨hx0,hxH,oe,vs,(oth x (Ne.symm hTx)).trans he,rfl,rfl,hd,hsz, .inr ⟨T,_,_,h1,hTx,hT0,hTH,Heap.get?_update_self _ hT (Obj.isFreed_of_fields hd3),hd3,by simpa using h3⟩⟩
 rw [List.mem_singleton.mp hb]
 exact ⟨hT0,hTH,oT,ts,hT,hdT⟩
end
abbrev WX:=St→Value→Option Addr→Hp→Prop
def XE (X:Cx) (W:WX):Value→Shared→Prop:=fun e s'=>∃ σ H' x cls dx,e = .ref x∧Inv X [] σ H' s'∧ExAt X.s₀.heap s'.heap H' x cls dx false∧W σ cls dx H'
section
variable {X:Cx}
theorem zmi (t:Top1 X) {W:WX}:PassesOwn (model X.prog X.w) X.A X.env (XE X W):=by
 rintro e s' ⟨σ,H',x,cls,dx,rfl,I,ex,w⟩
 unfold notedBy
 refine zhv I t ex fun h1 I1 e1=>?_
 unfold cameBackBy
 obtain ⟨hx0,hxH,oe,vs,he,hc,hdx,hd,hsz,tb'⟩:=id e1
 rcases tb' with ⟨z,_⟩ | ⟨T,oT,ts,h1',hTx,hT0,hTH,hT,hdT,h3⟩
 ·cases z
 refine wpAny_bind (wpAny_field he hd h1' ?_)
 rw [if_neg (show ¬ ((Value.ref T == Value.none)=true) from by simp)]
 exact zfn I1 t e1 fun h2 I2 e2=>⟨σ,H',x,cls,dx,rfl,I2,e2.any,w⟩
def CXE (P:Program) (w:World):CXT:=fun outer H s E e s'=>∃ x cls dx H',e = .ref x∧s'.os=s.os∧AllBare s'.gens∧Un (frs outer) [] H H' s.heap s'.heap∧HOk P w H' s'.heap∧ExAt s.heap s'.heap H' x cls dx true∧E cls dx H'
end
end L2
namespace L2
open PySem PySem.Spec PyProof.Rows
structure zhh (X:Cx) (W:WX):Prop where
 top:Top1 X
 ex:X.ex=[]
 to:∀ e s',XE X W e s'→X.xe e s'
 passes:PassesOwn (model X.prog X.w) X.A X.env X.xe
theorem zhh.of {X:Cx} (t:Top1 X) (hx:X.ex=[]) (W:WX):zhh (X.wish (XE X W)) W where
 top:=⟨t.stk,t.frm,t.pn⟩
 ex:=hx
 to:=fun e s' ⟨σ,H',x,cls,dx,a,I,b,c⟩=>⟨σ,H',x,cls,dx,a,I.zb1,b,c⟩
 passes:=zmi t
theorem Inv.znt {X:Cx} {pins:List (Addr × Obj)} {σ:St} {H:Hp} {s:Shared} (I:Inv X pins σ H s):Inv X [] σ H s:=I.zfY fun p hp=>absurd hp (by simp)
theorem Inv.first {X:Cx} {pins:List (Addr × Obj)} {σ:St} {H:Hp} {s:Shared} (I:Inv X pins σ H s) (hx:X.ex=[]) {b:Addr} (h:s.heap.get? b=none):X.s₀.heap.get? b=none:=by
 cases e:X.s₀.heap.get? b with
 | none=>rfl
 | some o =>
  obtain ⟨o',e'⟩:=I.base.there b o e (by rw [hx];simp)
  rw [h] at e';cases e'
theorem ExAt.first {X:Cx} {pins:List (Addr × Obj)} {σ:St} {H H':Hp} {s:Shared} {h':Heap} {x:Addr} {cls:Value} {dx:Option Addr} {tb:Bool} (I:Inv X pins σ H s) (hx:X.ex=[]) (e:ExAt s.heap h' H' x cls dx tb) :
  ExAt X.s₀.heap h' H' x cls dx tb:=by
 obtain ⟨a,b,oe,vs,c1,c2,c3,c4,c5,c6⟩:=e
 refine ⟨I.first hx a,b,oe,vs,c1,c2,c3,c4,c5,c6.imp id fun ⟨T,oT,ts,d1,d2,d3,d4,d5,d6,d7⟩=>⟨T,oT,ts,d1,d2,I.first hx d3,d4,d5,d6,d7⟩⟩
theorem zbB.at {P:Program} {w:World} {H:Hp} {h:Heap} {a:Addr} {o:HO} (x:zbB P w H h a o):∃ ob,h.get? a=some ob:=by
 cases o with
 | lst xs=>obtain ⟨_,_,_,_,e⟩:=x;exact ⟨_,e⟩
 | tup xs=>obtain ⟨_,_,_,_,e,_⟩:=x;exact ⟨_,e⟩
 | dK kvs=>obtain ⟨_,_,_,_,o,_,_,e,_⟩:=x;exact ⟨_,e⟩
 | dT kvs=>obtain ⟨_,_,_,_,o,_,_,e,_⟩:=x;exact ⟨_,e⟩
 | set S n=>obtain ⟨o,_,_,_,e,_⟩:=x;exact ⟨_,e⟩
 | ins C dx fs=>obtain ⟨_,_,_,e,_⟩:=x;exact ⟨_,e⟩
 | own y=>exact x
 | xd fs=>obtain ⟨_,⟨_,_,_,e,_⟩,_⟩:=x;exact ⟨_,e⟩
 | rng lo hi=>obtain ⟨_,_,_,e⟩:=x;exact ⟨_,e⟩
 | frz ob u=>obtain ⟨e,_⟩:=x;exact ⟨_,e⟩
 | tbl ps=>exact ⟨_,show h.get? a=some _ from x⟩
 | met f y=>exact ⟨_,show h.get? a=some _ from x⟩
 | ext φ=>obtain ⟨_,e,_⟩:=x;exact e
section
variable {P:Program} {w:World} {K:PySem.W.Frag} {mg:Str→Option Value} {base:Heap}
abbrev cxX (P:Program) (w:World) (K:PySem.W.Frag) (mg:Str→Option Value) (base:Heap) (N:List Str) (qual:Str) (scope:Scope) (f:Addr) (cd:Value) (A:Around) (outer:List Env) (s:Shared) (H:Hp) (E:XK):Cx :=
 (cxOf (CXE P w) P w K mg base N qual scope f cd A outer s H E).wish (XE (cxOf (CXE P w) P w K mg base N qual scope f cd A outer s H E) fun _=>E)
theorem zeF {CX:CXT} {N:List Str} {qual:Str} {scope:Scope} {f:Addr} {cd:Value} {A:Around} {outer:List Env} {s:Shared} {H:Hp} {E:XK}:Top1 (cxOf CX P w K mg base N qual scope f cd A outer s H E):=⟨rfl,rfl,rfl⟩
theorem zal {N:List Str} {qual:Str} {scope:Scope} {f:Addr} {cd:Value} {A:Around} {outer:List Env} {s:Shared} {H:Hp} {E:XK}:zhh (cxX P w K mg base N qual scope f cd A outer s H E) (fun _=>E):=zhh.of zeF rfl _
theorem zhR {N:List Str} {qual:Str} {scope:Scope} {f:Addr} {cd:Value} {A:Around} {outer:List Env} {s:Shared} {H:Hp} {E:XK} {st:List Stmt} {t:TS} (h:PSs (cxX P w K mg base N qual scope f cd A outer s H E) st t) :
  PSs (cxOf (CXE P w) P w K mg base N qual scope f cd A outer s H E) st t:=by
 intro pins s1 σ H1 D I hw
 refine wpAny_mono (h pins s1 σ H1 D (I.wish _) hw) (fun _ _ q=>q.zb1) fun e s' hx=>?_
 obtain ⟨σ',H',x,cls,dx,rfl,I',ex,q⟩:=hx
 show wpAny _ _ (leaving _ _) _ _ _
 unfold leaving
 refine wpAny_bind (zhv (E:=fun e' s''=>CXE P w outer H s E e' s'') I' zeF ex fun h1 I1 e1=>?_)
 refine zfn I1 zeF e1 fun h2 I2 e2=>?_
 exact ⟨x,cls,dx,H',rfl,I2.os,I2.bare,I2.base,I2.hok,e2,q⟩
structure DefX (P:Program) (w:World) (K:PySem.W.Frag) (mg:Str→Option Value) (base:Heap) (x:Str) (k:Nat) (ps:List Str) (sp:Sp):Prop where
 ex:∃ f fd,FnOk P w K mg base (CXE P w) k f fd ps sp∧mg x=some (.ref f)∧PySem.W.keepIn K (.ref f)=true∧Binds K fd ps []
theorem DefX.of {x:Str} {st:Stmt} {N ps:List Str} {k:Nat} {sp:Sp} (h:HasFn K mg x st) (S:zao N ps (zaa st))
  (bind:∀ (kV doc pm:Value) (an:Option Addr) (cdv ct:Value) (us:List Value),us.length=ps.length→bindArgs (PySem.W.fnOf x x (zap st) (zag st) (zaa st) .none kV doc pm an cdv ct) ⟨us,[]⟩ = pure (ps.zip us))
  (len:∀ vs H Q E,sp vs H Q E→vs.length=ps.length)
  (hbody:∀ (f:Addr) (cdv:Value) (A:Around) (outer:List Env) (s:Shared) (H:Hp) (vs:List V) (Q:VK) (E:XK),Room k (A.deeper (envOfC x (zaa st) s.heap.objs.size f cdv))→sp vs H Q E →
   ∃ t,PSs (cxX P w K mg base N x (zaa st) f cdv A outer s H E) (zag st) t∧t { nx:=fun _ H'=>Q .non H',rt:=Q } (start N vs) H):DefX P w K mg base x (k + 1) ps sp:=by
 obtain ⟨f,fd,hm,F⟩:=h.ex
 refine ⟨f,fd,?_,hm,F.kp,F.binds bind⟩
 obtain ⟨oc,od,kV,doc,pm,an,cdv,ct,osl,rfl,lk,hcd⟩:=F.ex
 refine zi7 lk hcd S len fun A outer s H vs Q E hr hsp=>?_
 obtain ⟨t,h,q⟩:=hbody f cdv A outer s H vs Q E hr hsp
 exact ⟨t,zhR h,q⟩
end
section
variable {X:Cx} {W:WX} {x:Str} {p pos np cpos:Pos} {e:Expr} {es:List Expr} {t:TA}
def zmB (sp:Sp) (W:WX) (t:TA):TE:=fun σ H Q=>t σ H fun vs H1=>sp vs H1 Q fun cls dx H'=>W σ cls dx H'
theorem zlm {k:Nat} {ps:List Str} {sp:Sp} (T:zhh X W) (D:DefX X.prog X.w X.K X.mg X.base x k ps sp) (hr:Room k X.A) (hg:Gl X x) (ha:PA X (e :: es) t)
  (hdb:(x == ("__debug__" : Str))=false:=by decide) (he:starEach (e :: es) X.env=(false,eval e X.env) :: starEach es X.env:=by rfl) (hpl:(backTo pos (starEach es X.env)).any (·.1)=false:=by rfl) :
  PE X (.Call (.Name x p) (e :: es) [] pos) (zmB sp W t):=by
 obtain ⟨f,fd,F,hm,hk,hb⟩:=D.ex
 intro pins s σ H Q I h
 refine wpAny_Call_Name_kw (zgg I hg hm ?_ hdb)
 refine PySem.W.callWith_K (h₀:=X.base) I.ok.mod.kin hk (thn (ha pos pins s σ H _ I h) fun us s1 ⟨vs,H1,I1,r,q⟩=>⟨I1.kIn,?_⟩) he hpl
 have hl:us.length=ps.length:=by rw [← r.length];exact F.len _ _ _ _ q
 have hb':=hb s1 us I1.kIn (by rw [List.append_nil];exact hl)
 rw [List.append_nil] at hb'
 refine wpAny_call (codeAny_mono (F.run X.A X.stack s1 H1 ⟨us,[]⟩ us vs Q _ hr I1.env0 hb' r q) fun r s' hq=>?_)
 cases r with
 | error ev =>
  obtain ⟨a,cls,dx,H',rfl,os,bare,un,hok,ex,q'⟩:=hq
  have I2:=(I1.zmE os un hok bare (fun b z=>absurd z (by simp))).znt
  exact T.to _ _ ⟨σ,H',a,cls,dx,rfl,I2,(ex.first I1 T.ex).any,q'⟩
 | ok fl =>
  cases fl with
  | ret u=>exact I1.after hq
  | next=>exact False.elim hq
  | brk=>exact False.elim hq
  | cont=>exact False.elim hq
abbrev bmVE:List Value:=[.type "ValueError", .type "Exception", .type "BaseException", .type "object"]
structure OwnE (K:PySem.W.Frag) (C:Addr):Prop where
 inK:PySem.W.excIn K C bmVE "ValueError.__new__" = true
theorem OwnE.obj {K:PySem.W.Frag} {C:Addr} (O:OwnE K C) {h:Heap} (X:K.In h):∃ bm N nm q bs hdct sn sub ab col dd k0 k1 k2 k3 k5 mN,h.get? C=some (excClassObj nm q C N bs bm hdct sn sub ab col dd k0 k1 k2 k3 k5 "ValueError.__new__")∧h.Ns N mN∧mN "__init__" = none∧OwnTail h bmVE bm:=by
 have q:=O.inK
 unfold PySem.W.excIn at q
 split at q
 ·rename_i dd cd sl ho
  split at q
  ·rename_i C' bm k0 k1 k2 k3 n k5 hm hs
   simp only [Bool.and_eq_true,beq_iff_eq,Bool.not_eq_true'] at q
   obtain ⟨⟨⟨⟨⟨rfl,rfl⟩,hdel⟩,ht⟩,hok⟩,hni⟩:=q
   obtain ⟨nm,bs,mro,ns,qn,hd,sn,sub,ab,col,del⟩:=cd
   dsimp only at hm hdel hok hni
   subst hm hdel
   have hsl:sl = #[k0,k1,k2,k3,some (.builtin "ValueError.__new__"),k5]:=by
    obtain ⟨l⟩:=sl
    simp only at hs
    rw [hs]
   subst hsl
   exact ⟨bm,ns,nm,qn,bs,hd,sn,sub,ab,col,dd,k0,k1,k2,k3,k5,_,X _ _ ho, .of_isNs (PySem.W.isNs_of_in X hok),PySem.W.nsMap_none_of_in X hok hni,PySem.W.tail_of_in X ht⟩
  ·cases q
 ·cases q
end
end L2
namespace L2
open PySem PySem.Spec PyProof.Rows
structure XC (K:PySem.W.Frag) (C:Addr):Prop where
 ob:∃ nm q N bs bm hdct sn sub ab col dd k0 k1 k2 k3 k5,K.lookup C=some (excClassObj nm q C N bs bm hdct sn sub ab col dd k0 k1 k2 k3 k5 "ValueError.__new__")
 ga:PySem.W.findIn K (.ref C) "__getattribute__" = some (some (.builtin "BaseException.__getattribute__"))
 gt:PySem.W.findIn K (.ref C) "__getattr__" = some none
 cl:PySem.W.findIn K (.ref C) "__class__" = some (some (.builtin "object.__class__"))
 be:PySem.W.subIn K (.ref C) (.type "BaseException")=some true
 oj:PySem.W.subIn K (.ref C) (.type "object")=some true
section
variable {prog:Program} {w:World} {A:Around} {E:Value→Shared→Prop} {h:Heap} {g:Array GenState} {d:Drawn} {t:Nat} {os:OsState} {a:Addr} {o:Obj} {K:PySem.W.Frag} {C:Addr}
end
end L2
namespace L2
open PySem PySem.Spec PyProof.Rows
section
variable {K:PySem.W.Frag} {C D x:Addr} {oe:Obj} {b:Bool}
theorem XC.get (c:XC K C):∃ cd,PySem.W.clsIn K C=some cd∧cd.mro.isEmpty=false∧cd.mro.contains (.ref C)=true∧PySem.W.typeIn K (.ref C)=some (.type "type"):=by
 obtain ⟨nm,q,N,bs,bm,hdct,sn,sub,ab,col,dd,k0,k1,k2,k3,k5,e⟩:=c.ob
 refine ⟨{ name:=nm,bases:=bs,mro := .ref C :: bm,ns:=N,qualname:=q,hasDict:=hdct,slotNames:=sn,subclasses:=sub,abstract:=ab,collection:=col,hasDel:=false },?_,rfl,?_,?_⟩
 ·unfold PySem.W.clsIn
  rw [e]
 ·simp
 ·show (K.lookup C).map (·.cls)=_
  rw [e]
  rfl
theorem zkJ (cD:XC K D) (cC:XC K C) (s:PySem.W.subIn K (.ref D) (.ref C)=some b):PySem.W.kitOne K (.ref D) (.ref C)=some b:=by
 unfold PySem.W.kitOne
 split
 ·rename_i q
  have e:D=C:=Value.ref.inj (beq_iff_eq.mp q)
  subst e
  obtain ⟨cd,h1,h2,h3,_⟩:=cD.get
  change PySem.W.mroIn K D (.ref D)=some b at s
  unfold PySem.W.mroIn at s
  rw [h1] at s
  simp only [Option.bind_some,h2,h3] at s
  simpa using s
 ·obtain ⟨cd,h1,_,_,h4⟩:=cC.get
  unfold PySem.W.kitCls
  simp only [h1,h4]
  exact s
end
def Cx.zcE (X:Cx) (x:Addr) (oe:Obj):Cx:={ X with A:=X.A.mark (some (.ref x)),calm:=false,pn:=X.pn ++ [(x,oe)],xe:=fun _ _=>False }
theorem Cx.Ok.zcE {X:Cx} (ok:X.Ok) (x:Addr) (oe:Obj):(X.zcE x oe).Ok :=
 ⟨ok.mod,ok.kind,ok.glob,ok.blt,ok.above,ok.inj,ok.has,ok.cab,fun h=>Bool.noConfusion h,ok.frames,ok.stk,ok.exf,ok.bs,ok.bsz,ok.noex,ok.exfs,ok.funs,ok.frf⟩
section
variable {X:Cx} {σ:St} {H:Hp} {s:Shared} {x:Addr} {oe:Obj}
theorem Inv.zcE (I:Inv X [] σ H s) (p:s.heap.get? x=some oe∧H x=none∧x ≠ X.env.locals∧x ∉ X.fs∧∀ v,oe.data ≠ .cell v):Inv (X.zcE x oe) [] σ H s :=
 ⟨I.ok.zcE x oe,I.os,I.bare,I.base,I.loc,I.cell,I.free,I.freeC,fun q hq=>by
  have hq:q ∈ (X.pn ++ [(x,oe)]) ++ []:=hq
  rw [List.append_nil] at hq
  rcases List.mem_append.mp hq with z | z
  ·exact I.pin q (List.mem_append_left _ z)
  ·rw [List.mem_singleton.mp z];exact p,I.hok,I.len⟩
theorem ExAt.pin {cls:Value} {dx:Option Addr} {tb:Bool} (I:Inv X [] σ H s) (t:Top1 X) (e:ExAt X.s₀.heap s.heap H x cls dx tb):∃ oe vs,oe.cls=cls∧oe.dict=dx∧oe.data = .fields vs∧s.heap.get? x=some oe∧H x=none∧x ≠ X.env.locals∧x ∉ X.fs∧∀ v,oe.data ≠ .cell v:=by
 obtain ⟨_,hxH,oe,vs,he,hc,hdx,hd,_⟩:=e
 have nf:=ExAt.zjB I he hd
 exact ⟨oe,vs,hc,hdx,hd,he,hxH,fun z=>nf (t.mem.mpr (.inl z)),fun z=>nf (t.mem.mpr (.inr z)),fun v z=>by rw [hd] at z;cases z⟩
end
section
variable {M:Model} {A:Around} {E:Value→Shared→Prop} {h:Heap} {g:Array GenState} {d:Drawn} {t:Nat} {os:OsState} {e:Addr} {oe:Obj} {K:PySem.W.Frag} {C D:Addr} {b:Bool}
end
def PS0 (X:Cx) (st:Stmt) (t:TS):Prop:=∀ (s:Shared) (σ:St) (H:Hp) (D:Ends),Inv X [] σ H s→t D σ H→wpAny (model X.prog X.w) X.A (exec st X.env) (SP X [] D) X.xe s
def PSs0 (X:Cx) (st:List Stmt) (t:TS):Prop:=∀ (s:Shared) (σ:St) (H:Hp) (D:Ends),Inv X [] σ H s→t D σ H→wpAny (model X.prog X.w) X.A (execs st X.env) (SP X [] D) X.xe s
theorem PS.ps0 {X:Cx} {st:Stmt} {t:TS} (h:PS X st t):PS0 X st t:=h []
theorem PSs.ps0 {X:Cx} {st:List Stmt} {t:TS} (h:PSs X st t):PSs0 X st t:=h []
end L2
namespace L2
open PySem PySem.Spec PyProof.Rows
abbrev TH:=Addr→Value→Option Addr→TS
section
variable {X:Cx} {C:Addr} {i:Nat} {n y:Str} {np pos:Pos} {b₀:Stmt} {suite:List Stmt} {rest:List ExceptHandler} {ts th:TH}
end
section
variable {P:Program} {w:World} {K:PySem.W.Frag} {mg:Str→Option Value} {base:Heap}
theorem zme {CX:CXT} {k:Nat} {f:Addr} {name qual:Str} {params:Arguments} {body:List Stmt} {scope:Scope} {dV kV doc pm cdv ct oc:Value} {an od:Option Addr}
  {osl:Array (Option Value)} {N ps:List Str} {sp:Sp} (lk:K.lookup f=some ⟨oc,od, .func (PySem.W.fnOf name qual params body scope dV kV doc pm an cdv ct),osl⟩) (hcd:PySem.W.codeIn K cdv qual=true) (S:zao N ps scope)
  (len:∀ vs H Q E,sp vs H Q E→vs.length=ps.length)
  (hbody:∀ (A:Around) (outer:List Env) (s:Shared) (H:Hp) (vs:List V) (Q:VK) (E:XK),Room k (A.deeper (envOfC qual scope s.heap.objs.size f cdv))→sp vs H Q E →
   ∃ t,PSs0 (cxOf CX P w K mg base N qual scope f cdv A outer s H E) body t∧t { nx:=fun _ H'=>Q .non H',rt:=Q } (start N vs) H) :
  FnOk P w K mg base CX (k + 1) f (PySem.W.fnOf name qual params body scope dV kV doc pm an cdv ct) ps sp:=by
 refine ⟨len,fun A outer s H args us vs Q E hr e0 hb r hsp=>?_⟩
 have hl:=len _ _ _ _ hsp
 have KX:K.In s.heap:=e0.mod.kin.keeps fun b o e=>(e0.bs b o e).1
 have lim:s.heap.NoLimit:=e0.mod.nolimit.keeps fun b o e=>(e0.bs b o e).1
 have hkind:∀ y ∈ ps.zip us,scope.names.lookup y.1=some .local∨(scope.names.lookup y.1=some .cell∧((cellsFrom (s.heap.objs.size + 1) scope.names []).lookup y.1).isSome=true):=fun ⟨n,v⟩ hy=>by
  rcases S.par n (List.of_mem_zip hy).1 with q | q
  ·exact .inl q
  ·exact .inr ⟨q,PySem.W.cellsFrom_some _ _ _ (.inl q)⟩
 refine codeAny_call_function hr.depth (KX _ _ lk) rfl S.co S.gen rfl (PySem.W.codeRec_of KX hcd) (hb _ _ _ _ ?_)
 refine wpAny_newFunctionEnv_cells S.kind hkind fun env he s1 x=>?_
 subst he
 refine ⟨lim.keeps x.toInCall.keep,codeAny_func ?_⟩
 obtain ⟨t,ht,hq⟩:=hbody A outer s H vs Q E (hr.deeper _) hsp
 have I:Inv (cxOf CX P w K mg base N qual scope f cdv A outer s H E) [] (start N vs) H s1:=zdF S hr.hd e0 hl r x
 refine wpAny_mono (ht s1 (start N vs) H _ I hq) (fun fl s' hs=>?_) fun e s' hs=>hs
 have fin:∀ {σ':St} {H':Hp} {v:V} {u:Value},Inv (cxOf CX P w K mg base N qual scope f cdv A outer s H E) [] σ' H' s'→RelV v u→Q v H'→CE outer P w H s Q u s' :=
  fun {σ' H' v u} J rv q=>⟨v,H',J.os,J.bare,J.base,J.hok,rv,q⟩
 cases fl with
 | ret u =>
  obtain ⟨v,σ',H',J,rv,q⟩:=hs
  exact fin J rv q
 | next =>
  obtain ⟨σ',H',J,q⟩:=hs
  exact fin (v:=V.non) (u:=Value.none) J rfl q
 | brk =>
  obtain ⟨_,_,_,q⟩:=hs
  exact False.elim q
 | cont =>
  obtain ⟨_,_,_,q⟩:=hs
  exact False.elim q
theorem PSs0.nox {X:Cx} {st:List Stmt} {t:TS} (h:PSs0 X.nox st t):PSs0 X st t:=fun s σ H D I hw =>
 wpAny_mono (h s σ H D (I.wish _) hw) (fun _ _ q=>q.zb1) fun _ _ z=>False.elim z
theorem Def.of0 {x:Str} {st:Stmt} {N ps:List Str} {k:Nat} {sp:Sp} (h:HasFn K mg x st) (S:zao N ps (zaa st))
  (bind:∀ (kV doc pm:Value) (an:Option Addr) (cdv ct:Value) (us:List Value),us.length=ps.length→bindArgs (PySem.W.fnOf x x (zap st) (zag st) (zaa st) .none kV doc pm an cdv ct) ⟨us,[]⟩ = pure (ps.zip us))
  (len:∀ vs H Q E,sp vs H Q E→vs.length=ps.length)
  (hbody:∀ (f:Addr) (cdv:Value) (A:Around) (outer:List Env) (s:Shared) (H:Hp) (vs:List V) (Q:VK) (E:XK),Room k (A.deeper (envOfC x (zaa st) s.heap.objs.size f cdv))→sp vs H Q E →
   ∃ t,PSs0 (cxOf CX0 P w K mg base N x (zaa st) f cdv A outer s H E).nox (zag st) t∧t { nx:=fun _ H'=>Q .non H',rt:=Q } (start N vs) H):Def P w K mg base x (k + 1) ps sp:=by
 obtain ⟨f,fd,hm,F⟩:=h.ex
 refine ⟨f,fd,?_,hm,F.kp,F.binds bind⟩
 obtain ⟨oc,od,kV,doc,pm,an,cdv,ct,osl,rfl,lk,hcd⟩:=F.ex
 refine zme lk hcd S len fun A outer s H vs Q E hr hsp=>?_
 obtain ⟨t,h,q⟩:=hbody f cdv A outer s H vs Q E hr hsp
 exact ⟨t,h.nox,q⟩
end
end L2
namespace L2
open PySem PySem.Spec PyProof.Rows
def zl7 (scope sc:Scope) (N:List Str) (js:List Nat):Bool :=
 scope.kind == .function && (scope.names.all fun y=>y.2 != .cell && (y.2 != .local || scope.names.lookup y.1 == some .local) && (y.2 != .free || (sc.names.lookup y.1 == some .cell || sc.names.lookup y.1 == some .free))) &&
 js.all fun j=>match N[j]? with
  | some x=>scope.names.lookup x == some .free
  | none=>false
theorem LcOk.of {X:Cx} {scope:Scope} {ls:List Str} {js:List Nat} (sc:Scope) (N:List Str) (hsc:X.env.scope=sc) (hN:X.N=N) (ok:zl7 scope sc N js=true):LcOk X scope ls js:=by
 unfold zl7 at ok
 rw [Bool.and_eq_true,Bool.and_eq_true] at ok
 obtain ⟨⟨h1,h2⟩,h3⟩:=ok
 rw [List.all_eq_true] at h2 h3
 refine ⟨by simpa using h1,fun y hy=>?_,fun y hy hl=>?_,fun y hy hf=>?_,fun j hj=>?_⟩
 ·have q:=h2 y hy
  rw [Bool.and_eq_true,Bool.and_eq_true] at q
  simpa using q.1.1
 ·have q:=h2 y hy
  rw [Bool.and_eq_true,Bool.and_eq_true] at q
  simpa [hl] using q.1.2
 ·have q:=h2 y hy
  rw [Bool.and_eq_true,Bool.and_eq_true] at q
  have q2:=q.2
  rw [hf] at q2
  unfold Env.kindOf
  rw [hsc]
  simpa using q2
 ·have q:=h3 j hj
  rw [hN]
  cases e:N[j]? with
  | none=>rw [e] at q;cases q
  | some x=>rw [e] at q;exact ⟨x,rfl,by simpa using q⟩
theorem Kept.same {l:Addr} {H H':Hp} (e:Kept l H H') (hl:H l=none):Same H H':=fun b o h=>e b o (zan h hl) h
end L2
namespace L2
open PySem PySem.Spec PyProof.Rows
end L2
namespace L2
open PySem PySem.Spec PyProof.Rows
section
variable {X:Cx}
end
end L2
namespace L2
open PySem PySem.Spec PyProof.Rows
section
variable {X:Cx}
end
theorem Rows.take {K:PySem.W.Frag} {H:Hp}:∀ {xs:List V} {rs:List (List Int)} (k:Nat),Rows K H xs rs→Rows K H (xs.take k) (rs.take k)
 | _,_,0,_ => .nil
 | _,_,_ + 1, .nil => .nil
 | _,_,k + 1, .cons q t => .cons q (Rows.take k t)
theorem Rows.append {K:PySem.W.Frag} {H:Hp}:∀ {xs ys:List V} {rs qs:List (List Int)},Rows K H xs rs→Rows K H ys qs→Rows K H (xs ++ ys) (rs ++ qs)
 | _,_,_,_, .nil,h=>h
 | _,_,_,_, .cons q t,h => .cons q (Rows.append t h)
end L2
namespace V2
open PySem PySem.Spec PyProof.Rows L2
inductive A where
 | int (i:Int) | bl (b:Bool) | str (x:Str) | non | ty (n:String) | adr (p:Addr) | exn (p d:Addr) (f:Str) (i:Int) | gl (x:Str) | scr (ns:List Int)
 | tup (ds:List A) | lst (ds:List A) | cel (k:Nat)
inductive Fd where
 | val (a:A) | lst (ds:List A) | dct (kvs:List (Key × A))
@[simp] def Fd.own:Fd→Bool
 | .val _=>false
 | _=>true
inductive Cell where
 | lst (ds:List A) | dct (kvs:List (Key × A)) | ins (cls:Str) (fs:List (Str × Fd)) | tab (x:Str) (pos:Pos) (qual:Str) | dead
@[simp] def Cell.noOwn:Cell→Bool
 | .ins _ fs=>fs.all fun p=>!p.2.own
 | _=>true
structure Exc where
 cls:Str
 fs:List (Str × A)
inductive Rs (α:Type) where
 | ok (a:α) | exc (x:Exc)
abbrev Sto:=List Cell
abbrev Ev:=List (Option A)
abbrev Mo (α:Type):=Sto→Option (Rs α × Sto)
@[simp] def ret {α:Type} (a:α):Mo α:=fun Ω=>some (.ok a,Ω)
@[simp] def mb {α β:Type} (m:Mo α) (k:α→Mo β):Mo β:=fun Ω =>
 match m Ω with
 | some (.ok a,Ω1)=>k a Ω1
 | some (.exc x,Ω1)=>some (.exc x,Ω1)
 | none=>none
@[simp] def stuck {α:Type}:Mo α:=fun _=>none
@[simp] def need {α:Type} (o:Option α):Mo α:=fun Ω=>o.map fun a=>(.ok a,Ω)
@[simp] def chk (p:Prop) [Decidable p] : Mo Unit:=fun Ω=>if p then some (.ok (),Ω) else none
mutual
def Den (K:PySem.W.Frag) (G:Hp) (ι:List Addr):V→A→Prop
 | v, .int j=>v = .int j
 | v, .bl b=>v = .bl b
 | v, .str x=>v = .str x
 | v, .non=>v = .non
 | v, .ty n=>v = .ty n
 | v, .adr p=>v = .ref p
 | v, .exn p d f i=>v = .ref p∧G d=some (.xd [(f, .int i)])
 | v, .gl x=>∃ C,PySem.W.nsIn K mainGlobals x=some (some (.ref C))∧v = .ref C
 | v, .scr ns=>∃ a,v = .ref a∧SqL K G a (ns.map V.int)
 | v, .tup ds=>∃ a xs,v = .ref a∧G a=some (.tup xs)∧DenL K G ι xs ds
 | v, .lst ds=>∃ a xs,v = .ref a∧G a=some (.lst xs)∧DenL K G ι xs ds
 | v, .cel k=>∃ a,v = .ref a∧ι[k]? = some a
def DenL (K:PySem.W.Frag) (G:Hp) (ι:List Addr):List V→List A→Prop
 | xs,[]=>xs=[]
 | xs,d :: ds=>∃ x r,xs=x :: r∧Den K G ι x d∧DenL K G ι r ds
end
structure Ext (G:Hp) (ι:List Addr) (G':Hp) (ι':List Addr):Prop where
 same:Same G G'
 pre:∀ (k:Nat) (a:Addr),ι[k]? = some a→ι'[k]? = some a
theorem Ext.refl (G:Hp) (ι:List Addr):Ext G ι G ι:=⟨Same.refl _,fun _ _ h=>h⟩
theorem Ext.trans {G G1 G2:Hp} {ι ι1 ι2:List Addr} (a:Ext G ι G1 ι1) (b:Ext G1 ι1 G2 ι2):Ext G ι G2 ι2:=⟨a.same.trans b.same,fun k x h=>b.pre k x (a.pre k x h)⟩
section
variable {K:PySem.W.Frag} {G G':Hp} {ι ι':List Addr}
mutual
theorem Den.ext (e:Ext G ι G' ι'):∀ {v:V} {d:A},Den K G ι v d→Den K G' ι' v d
 | _, .int _,h=>by simpa only [Den] using h
 | _, .bl _,h=>by simpa only [Den] using h
 | _, .str _,h=>by simpa only [Den] using h
 | _, .non,h=>by simpa only [Den] using h
 | _, .ty _,h=>by simpa only [Den] using h
 | _, .adr _,h=>by simpa only [Den] using h
 | _, .exn _ _ _ _,h=>by
  simp only [Den] at h ⊢
  exact ⟨h.1,e.same _ _ h.2⟩
 | _, .gl _,h=>by simpa only [Den] using h
 | _, .scr _,h=>by
  simp only [Den] at h ⊢
  obtain ⟨a,h1,h2⟩:=h
  exact ⟨a,h1,e.same.seq h2⟩
 | _, .tup ds,h=>by
  simp only [Den] at h ⊢
  obtain ⟨a,xs,h1,h2,h3⟩:=h
  exact ⟨a,xs,h1,e.same _ _ h2,DenL.ext e h3⟩
 | _, .lst ds,h=>by
  simp only [Den] at h ⊢
  obtain ⟨a,xs,h1,h2,h3⟩:=h
  exact ⟨a,xs,h1,e.same _ _ h2,DenL.ext e h3⟩
 | _, .cel k,h=>by
  simp only [Den] at h ⊢
  obtain ⟨a,h1,h2⟩:=h
  exact ⟨a,h1,e.pre _ _ h2⟩
theorem DenL.ext (e:Ext G ι G' ι'):∀ {xs:List V} {ds:List A},DenL K G ι xs ds→DenL K G' ι' xs ds
 | _,[],h=>by simpa only [DenL] using h
 | _,d :: ds,h=>by
  simp only [DenL] at h ⊢
  obtain ⟨x,r,h1,h2,h3⟩:=h
  exact ⟨x,r,h1,Den.ext e h2,DenL.ext e h3⟩
end
theorem za2 {xs:List V}:DenL K G ι xs []↔xs=[]:=by simp only [DenL]
theorem DenL.length:∀ {xs:List V} {ds:List A},DenL K G ι xs ds→xs.length=ds.length
 | _,[],h=>by simp only [DenL] at h;subst h;rfl
 | _,d :: ds,h=>by
  simp only [DenL] at h
  obtain ⟨x,r,rfl,h2,h3⟩:=h
  simp only [List.length_cons,DenL.length h3]
theorem DenL.nil:DenL K G ι [] []:=by simp only [DenL]
theorem DenL.cons {x:V} {xs:List V} {d:A} {ds:List A} (h:Den K G ι x d) (t:DenL K G ι xs ds):DenL K G ι (x :: xs) (d :: ds):=by
 simp only [DenL];exact ⟨x,xs,rfl,h,t⟩
theorem DenL.zbu {xs:List V} {d:A} {ds:List A} (h:DenL K G ι xs (d :: ds)):∃ x r,xs=x :: r∧Den K G ι x d∧DenL K G ι r ds:=by simpa only [DenL] using h
theorem DenL.get:∀ {xs:List V} {ds:List A} {i:Nat} {d:A},DenL K G ι xs ds→ds[i]? = some d→∃ x,xs[i]? = some x∧Den K G ι x d
 | _,[],_,_,_,e=>by simp at e
 | _,_ :: _,0,_,h,e=>by
  obtain ⟨x,r,rfl,h2,h3⟩:=h.zbu
  simp at e;subst e;exact ⟨x,rfl,h2⟩
 | _,_ :: _,i + 1,_,h,e=>by
  obtain ⟨x,r,rfl,h2,h3⟩:=h.zbu
  simp at e
  obtain ⟨y,q1,q2⟩:=DenL.get h3 e
  exact ⟨y,by simpa using q1,q2⟩
theorem DenL.append:∀ {xs ys:List V} {ds es:List A},DenL K G ι xs ds→DenL K G ι ys es→DenL K G ι (xs ++ ys) (ds ++ es)
 | _,_,[],_,h,t=>by rw [za2] at h;subst h;exact t
 | _,_,d :: ds,_,h,t=>by
  obtain ⟨x,r,rfl,h2,h3⟩:=h.zbu
  exact .cons h2 (DenL.append h3 t)
theorem DenL.take:∀ {xs:List V} {ds:List A} (n:Nat),DenL K G ι xs ds→DenL K G ι (xs.take n) (ds.take n)
 | _,_,0,_=>by simpa using DenL.nil
 | _,[],n + 1,h=>by rw [za2] at h;subst h;exact DenL.nil
 | _,d :: ds,n + 1,h=>by
  obtain ⟨x,r,rfl,h2,h3⟩:=h.zbu
  exact .cons h2 (DenL.take n h3)
theorem DenL.drop:∀ {xs:List V} {ds:List A} (n:Nat),DenL K G ι xs ds→DenL K G ι (xs.drop n) (ds.drop n)
 | _,_,0,h=>by simpa using h
 | _,[],n + 1,h=>by rw [za2] at h;subst h;exact DenL.nil
 | _,d :: ds,n + 1,h=>by
  obtain ⟨x,r,rfl,h2,h3⟩:=h.zbu
  exact DenL.drop n h3
theorem DenL.set {x:V} {d:A} (hx:Den K G ι x d):∀ {xs:List V} {ds:List A} (n:Nat),DenL K G ι xs ds→DenL K G ι (xs.set n x) (ds.set n d)
 | _,[],n,h=>by rw [za2] at h;subst h;exact DenL.nil
 | _,e :: ds,0,h=>by
  obtain ⟨y,r,rfl,h2,h3⟩:=h.zbu
  exact .cons hx h3
 | _,e :: ds,n + 1,h=>by
  obtain ⟨y,r,rfl,h2,h3⟩:=h.zbu
  exact .cons h2 (DenL.set hx n h3)
theorem zfc:∀ (ns:List Int),DenL K G ι (ns.map V.int) (ns.map A.int)
 | [] => .nil
 | n :: ns => .cons (by simp only [Den]) (zfc ns)
end
def znw (K:PySem.W.Frag) (G H:Hp) (a:Addr) (x:Str) (pos:Pos) (qual:Str):Prop :=
 G a=none∧(∃ c,PySem.W.tabIn K x=some (c,a))∧∃ ps,H a=some (.tbl ps)∧TriplesOk ps.toList ∧
  (codeAmong pos ps.toList=none∨∃ c' oc vs t,codeAmong pos ps.toList=some (.ref c')∧G c'=some (.frz oc (.own 0))∧oc.data = .fields vs∧vs[1]? = some (.str qual t))
def FdOk (K:PySem.W.Frag) (G:Hp) (ι:List Addr) (H:Hp) (v:V):Fd→Prop
 | .val a=>Den K G ι v a
 | .lst ds=>∃ b xs,v = .ref b∧G b=none∧b ∉ ι∧H b=some (.lst xs)∧DenL K G ι xs ds
 | .dct kvs=>∃ b,∃ ws:List (Key × V),v = .ref b∧G b=none∧b ∉ ι∧H b=some (.dK ws)∧ws.map (·.1)=kvs.map (·.1)∧DenL K G ι (ws.map (·.2)) (kvs.map (·.2))
def zcD (K:PySem.W.Frag) (G:Hp) (ι:List Addr) (H:Hp):List (Str × V)→List (Str × Fd)→Prop
 | [],[]=>True
 | (f,v) :: ws,(g,d) :: fs=>f=g∧FdOk K G ι H v d∧zcD K G ι H ws fs
 | _,_=>False
def zc3 (K:PySem.W.Frag) (G:Hp) (ι:List Addr) (H:Hp) (a:Addr):Cell→Prop
 | .lst ds=>G a=none∧∃ xs,H a=some (.lst xs)∧DenL K G ι xs ds
 | .dct kvs=>G a=none∧∃ ws:List (Key × V),H a=some (.dK ws)∧ws.map (·.1)=kvs.map (·.1)∧DenL K G ι (ws.map (·.2)) (kvs.map (·.2))
 | .ins cls fs=>G a=none∧∃ C dx,∃ ws:List (Str × V),PySem.W.nsIn K mainGlobals cls=some (some (.ref C))∧H a=some (.ins C dx ws)∧zcD K G ι H ws fs
 | .tab x pos qual=>znw K G H a x pos qual
 | .dead=>True
def zbN (H:Hp) (ι:List Addr) (Ω:Sto) (k i:Nat) (b:Addr):Prop:=∃ a cls fs C dx ws g h fd,ι[k]? = some a∧Ω[k]? = some (.ins cls fs)∧H a=some (.ins C dx ws)∧fs[i]? = some (g,fd)∧fd.own=true∧ws[i]? = some (h, .ref b)
structure Wd (K:PySem.W.Frag) (G:Hp) (ι:List Addr) (Ω:Sto) (H:Hp):Prop where
 sub:Same G H
 inj:ι.Nodup
 len:ι.length=Ω.length
 live:∀ a ∈ ι,∃ o,H a=some o
 cel:∀ (k:Nat) (c:Cell) (a:Addr),Ω[k]? = some c→ι[k]? = some a→zc3 K G ι H a c
 sep:∀ (b:Addr) (k i k' i':Nat),zbN H ι Ω k i b→zbN H ι Ω k' i' b→k=k'∧i=i'
section
variable {K:PySem.W.Frag} {G G' H H':Hp} {ι ι':List Addr} {Ω:Sto} {a p:Addr}
theorem FdOk.mono {v:V} {fd:Fd} (h:FdOk K G ι H v fd) (e:Ext G ι G' ι') (ho:∀ b o,b ∉ ι→G b=none→H b=some o→b ∉ ι'∧G' b=none∧H' b=some o):FdOk K G' ι' H' v fd:=by
 cases fd with
 | val a=>exact Den.ext e h
 | lst ds =>
  obtain ⟨b,xs,h1,h2,h3,h4,h5⟩:=h
  obtain ⟨q1,q2,q3⟩:=ho b _ h3 h2 h4
  exact ⟨b,xs,h1,q2,q1,q3,h5.ext e⟩
 | dct kvs =>
  obtain ⟨b,ws,h1,h2,h3,h4,h5,h6⟩:=h
  obtain ⟨q1,q2,q3⟩:=ho b _ h3 h2 h4
  exact ⟨b,ws,h1,q2,q1,q3,h5,h6.ext e⟩
theorem zcD.map {K':PySem.W.Frag} {G' H':Hp} {ι':List Addr} (f:∀ v fd,FdOk K G ι H v fd→FdOk K' G' ι' H' v fd):∀ {ws:List (Str × V)} {fs:List (Str × Fd)},zcD K G ι H ws fs→zcD K' G' ι' H' ws fs
 | [],[],_=>trivial
 | (_,_) :: _,(_,_) :: _,h=>⟨h.1,f _ _ h.2.1,zcD.map f h.2.2⟩
 | [],_ :: _,h=>h.elim
 | _ :: _,[],h=>h.elim
theorem zc3.mono {c:Cell} (h:zc3 K G ι H a c) (e:Ext G ι G' ι') (hg:G' a=G a) (hh:H' a=H a) (ho:∀ b o,b ∉ ι→G b=none→H b=some o→b ∉ ι'∧G' b=none∧H' b=some o):zc3 K G' ι' H' a c:=by
 cases c with
 | lst ds=>obtain ⟨g,xs,h1,h2⟩:=h;exact ⟨hg.trans g,xs,hh.trans h1,h2.ext e⟩
 | dct kvs=>obtain ⟨g,ws,h1,h2,h3⟩:=h;exact ⟨hg.trans g,ws,hh.trans h1,h2,h3.ext e⟩
 | ins cls fs=>obtain ⟨g,C,dx,ws,h0,h1,h2⟩:=h;exact ⟨hg.trans g,C,dx,ws,h0,hh.trans h1,h2.map fun _ _ q=>q.mono e ho⟩
 | tab x pos qual =>
  obtain ⟨g,hc,ps,h1,h2,h3⟩:=h
  exact ⟨hg.trans g,hc,ps,hh.trans h1,h2,h3.imp id fun ⟨c',oc,vs,t,q1,q2,q3⟩=>⟨c',oc,vs,t,q1,e.same _ _ q2,q3⟩⟩
 | dead=>trivial
theorem Wd.addr (w:Wd K G ι Ω H) {k:Nat} {c:Cell} (h:Ω[k]? = some c):∃ a,ι[k]? = some a:=by
 have hk:=(List.getElem?_eq_some_iff.mp h).1
 exact ⟨ι[k]'(by rw [w.len];exact hk),List.getElem?_eq_getElem _⟩
theorem Wd.ne (w:Wd K G ι Ω H) (hp:H p=none) (ha:a ∈ ι):a ≠ p:=by
 obtain ⟨o,ho⟩:=w.live a ha
 exact zan ho hp
theorem Wd.zcM (w:Wd K G ι Ω H) (hp:H p=none):G p=none:=by
 cases e:G p with
 | none=>rfl
 | some o=>rw [w.sub _ _ e] at hp;cases hp
theorem zbN.to {k i:Nat} {b:Addr} {ι':List Addr} {Ω Ω':Sto} (h:zbN H ι Ω k i b) (h1:∀ a,ι[k]? = some a→ι'[k]? = some a∧∀ o,H a=some o→H' a=some o) (h2:∀ cls fs,Ω[k]? = some (.ins cls fs)→Ω'[k]? = some (.ins cls fs)):zbN H' ι' Ω' k i b:=by
 obtain ⟨a,cls,fs,C,dx,ws,g,h',fd,q1,q2,q3,q4,q5,q6⟩:=h
 exact ⟨a,cls,fs,C,dx,ws,g,h',fd,(h1 a q1).1,h2 _ _ q2,(h1 a q1).2 _ q3,q4,q5,q6⟩
theorem zbN.no {k i:Nat} {b:Addr} {c:Cell} (h:zbN H ι Ω k i b) (hc:Ω[k]? = some c) (hn:c.noOwn=true):False:=by
 obtain ⟨a,cls,fs,C,dx,ws,g,h',fd,q1,q2,q3,q4,q5,q6⟩:=h
 rw [hc] at q2
 cases q2
 simp only [Cell.noOwn,List.all_eq_true] at hn
 have:=hn _ (List.mem_of_getElem? q4)
 simp only [] at this
 rw [q5] at this
 cases this
theorem Wd.grow (w:Wd K G ι Ω H) (s:Same H H'):Wd K G ι Ω H' where
 sub:=w.sub.trans s
 inj:=w.inj
 len:=w.len
 live:=fun a ha=>let ⟨o,ho⟩:=w.live a ha; ⟨o,s _ _ ho⟩
 cel:=fun k c a h1 h2=>by
  have q:=w.cel k c a h1 h2
  cases c with
  | lst ds=>obtain ⟨g,xs,h1,h2⟩:=q;exact ⟨g,xs,s _ _ h1,h2⟩
  | dct kvs=>obtain ⟨g,ws,h1,h2,h3⟩:=q;exact ⟨g,ws,s _ _ h1,h2,h3⟩
  | ins cls fs=>obtain ⟨g,C,dx,ws,h0,h1,h2⟩:=q;exact ⟨g,C,dx,ws,h0,s _ _ h1,h2.map fun _ _ q=>q.mono (Ext.refl _ _) fun b o x y z=>⟨x,y,s _ _ z⟩⟩
  | tab x pos qual =>
   obtain ⟨g,hc,ps,h1,h2⟩:=q
   exact ⟨g,hc,ps,s _ _ h1,h2⟩
  | dead=>trivial
 sep:=fun b k i k' i' h1 h2=>by
  have back:∀ {k i},zbN H' ι Ω k i b→zbN H ι Ω k i b:=fun h=>h.to (fun a ha=>⟨ha,fun o ho=>by
   obtain ⟨o',ho'⟩:=w.live a (List.mem_of_getElem? ha)
   have:=s _ _ ho'
   rw [ho] at this;cases this;exact ho'⟩) fun _ _ q=>q
  exact w.sep b k i k' i' (back h1) (back h2)
theorem zc2 {α:Type}:∀ {l:List α} {i j:Nat} {x:α},l.Nodup→l[i]? = some x→l[j]? = some x→i=j
 | [],_,_,_,_,h,_=>by simp at h
 | y :: l,0,0,_,_,_,_=>rfl
 | y :: l,0,j + 1,x,n,h1,h2=>by
  simp at h1 h2;subst h1
  exact absurd (List.mem_of_getElem? h2) (List.nodup_cons.mp n).1
 | y :: l,i + 1,0,x,n,h1,h2=>by
  simp at h1 h2;subst h2
  exact absurd (List.mem_of_getElem? h1) (List.nodup_cons.mp n).1
 | y :: l,i + 1,j + 1,x,n,h1,h2=>by
  simp at h1 h2
  rw [zc2 (List.nodup_cons.mp n).2 h1 h2]
theorem zb0 {α:Type} {l:List α} {k:Nat} {x:α} (h:l[k]? = some x):x ∈ l:=List.mem_of_getElem? h
theorem Ext.new (hp:G p=none) (o:HO):Ext G ι (upd G p o) ι:=⟨Same.new hp,fun _ _ h=>h⟩
theorem Wd.new (w:Wd K G ι Ω H) (hp:H p=none) (o:HO):Wd K (upd G p o) ι Ω (upd H p o) where
 sub:=fun b u h=>by
  by_cases e:b=p
  ·subst e;rw [zas] at h ⊢;exact h
  ·rw [zah e] at h ⊢;exact w.sub _ _ h
 inj:=w.inj
 len:=w.len
 live:=fun a ha=>by rw [zah (w.ne hp ha)];exact w.live a ha
 cel:=fun k c a h1 h2=>by
  have n:=w.ne hp (zb0 h2)
  exact (w.cel k c a h1 h2).mono (Ext.new (w.zcM hp) o) (zah n) (zah n) fun b u x y z=>by
   have nb:b ≠ p:=zan z hp
   exact ⟨x,by rw [zah nb];exact y,by rw [zah nb];exact z⟩
 sep:=fun b k i k' i' h1 h2=>by
  have back:∀ {k i},zbN (upd H p o) ι Ω k i b→zbN H ι Ω k i b:=fun h=>h.to (fun a ha=>⟨ha,fun u hu=>by rwa [zah (w.ne hp (List.mem_of_getElem? ha))] at hu⟩) fun _ _ q=>q
  exact w.sep b k i k' i' (back h1) (back h2)
theorem Ext.cell (x:Addr):Ext G ι G (ι ++ [x]):=⟨Same.refl _,fun k a h=>by
 rw [List.getElem?_append_left (List.getElem?_eq_some_iff.mp h).1];exact h⟩
theorem Wd.cell (w:Wd K G ι Ω H) (hp:H p=none) {o:HO} {c:Cell} (hc:zc3 K G (ι ++ [p]) (upd H p o) p c) (hno:c.noOwn=true:=by rfl):Wd K G (ι ++ [p]) (Ω ++ [c]) (upd H p o) where
 sub:=fun b u h=>by
  have e:b ≠ p:=fun e=>by subst e;rw [w.sub _ _ h] at hp;cases hp
  rw [zah e];exact w.sub _ _ h
 inj:=by
  rw [List.nodup_append]
  exact ⟨w.inj,by simp,fun a ha b hb=>by simp at hb;subst hb;exact w.ne hp ha⟩
 len:=by simp [w.len]
 live:=fun a ha=>by
  rcases List.mem_append.mp ha with h | h
  ·rw [zah (w.ne hp h)];exact w.live a h
  ·simp at h;subst h;exact ⟨o,zas⟩
 cel:=fun k c' a h1 h2=>by
  by_cases hk:k < ι.length
  ·rw [List.getElem?_append_left hk] at h2
   rw [List.getElem?_append_left (by rw [← w.len];exact hk)] at h1
   exact (w.cel k c' a h1 h2).mono (Ext.cell p) rfl (zah (w.ne hp (zb0 h2))) fun b u x y z=>by
    have nb:b ≠ p:=zan z hp
    exact ⟨by simp [x,nb],y,by rw [zah nb];exact z⟩
  ·have hk2:k=ι.length:=by
    have:=(List.getElem?_eq_some_iff.mp h2).1
    simp at this;omega
   subst hk2
   simp at h2;subst h2
   rw [w.len] at h1
   simp at h1;subst h1
   exact hc
 sep:=fun b k i k' i' h1 h2=>by
  have back:∀ {k i},zbN (upd H p o) (ι ++ [p]) (Ω ++ [c]) k i b→zbN H ι Ω k i b:=fun {k i} h=>by
   have h0:=h
   obtain ⟨a,cls,fs,C,dx,ws,g,h',fd,q1,q2,q3,q4,q5,q6⟩:=h
   by_cases hk:k < Ω.length
   ·rw [List.getElem?_append_left hk] at q2
    rw [List.getElem?_append_left (by rw [w.len];exact hk)] at q1
    rw [zah (w.ne hp (zb0 q1))] at q3
    exact ⟨a,cls,fs,C,dx,ws,g,h',fd,q1,q2,q3,q4,q5,q6⟩
   ·have hk2:k=Ω.length:=by
     have:=(List.getElem?_eq_some_iff.mp q2).1
     simp at this;omega
    subst hk2
    exact (h0.no (by simp) hno).elim
  exact w.sep b k i k' i' (back h1) (back h2)
theorem Wd.put (w:Wd K G ι Ω H) {k:Nat} {c:Cell} {o:HO} (hk:ι[k]? = some a) (hg:G a=none) (hc:zc3 K G ι (upd H a o) a c) (hno:c.noOwn=true:=by rfl):Wd K G ι (Ω.set k c) (upd H a o) where
 sub:=fun b u h=>by
  have e:b ≠ a:=fun e=>by subst e;rw [hg] at h;cases h
  rw [zah e];exact w.sub _ _ h
 inj:=w.inj
 len:=by rw [List.length_set];exact w.len
 live:=fun b hb=>by
  by_cases e:b=a
  ·subst e;exact ⟨o,zas⟩
  ·rw [zah e];exact w.live b hb
 cel:=fun j c' b h1 h2=>by
  by_cases hj:j=k
  ·subst hj
   rw [hk] at h2;cases h2
   have hl:j < Ω.length:=by rw [← w.len];exact (List.getElem?_eq_some_iff.mp hk).1
   rw [List.getElem?_set_self hl] at h1
   cases h1;exact hc
  ·rw [List.getElem?_set_ne (Ne.symm hj)] at h1
   have hne:b ≠ a:=fun e=>by
    subst e
    exact hj (zc2 w.inj h2 hk)
   exact (w.cel j c' b h1 h2).mono (Ext.refl _ _) rfl (zah hne) fun b u x y z=>by
    have nb:b ≠ a:=fun e=>by subst e;exact x (zb0 hk)
    exact ⟨x,y,by rw [zah nb];exact z⟩
 sep:=fun b j i j' i' h1 h2=>by
  have back:∀ {j i},zbN (upd H a o) ι (Ω.set k c) j i b→zbN H ι Ω j i b:=fun {j i} h=>by
   have h0:=h
   obtain ⟨a',cls,fs,C,dx,ws,g,h',fd,q1,q2,q3,q4,q5,q6⟩:=h
   by_cases hj:j=k
   ·subst hj
    have hl:j < Ω.length:=by rw [← w.len];exact (List.getElem?_eq_some_iff.mp hk).1
    exact (h0.no (by rw [List.getElem?_set_self hl]) hno).elim
   ·rw [List.getElem?_set_ne (Ne.symm hj)] at q2
    have hne:a' ≠ a:=fun e=>by subst e;exact hj (zc2 w.inj q1 hk)
    rw [zah hne] at q3
    exact ⟨a',cls,fs,C,dx,ws,g,h',fd,q1,q2,q3,q4,q5,q6⟩
  exact w.sep b j i j' i' (back h1) (back h2)
theorem Wd.freeze (w:Wd K G ι Ω H) {k:Nat} {o:HO} (hk:ι[k]? = some a) (hg:G a=none) (ho:H a=some o):Wd K (upd G a o) ι (Ω.set k .dead) H where
 sub:=fun b u h=>by
  by_cases e:b=a
  ·subst e;rw [zas] at h;cases h;exact ho
  ·rw [zah e] at h;exact w.sub _ _ h
 inj:=w.inj
 len:=by rw [List.length_set];exact w.len
 live:=w.live
 cel:=fun j c' b h1 h2=>by
  by_cases hj:j=k
  ·subst hj
   have hl:j < Ω.length:=by rw [← w.len];exact (List.getElem?_eq_some_iff.mp hk).1
   rw [List.getElem?_set_self hl] at h1
   cases h1;trivial
  ·rw [List.getElem?_set_ne (Ne.symm hj)] at h1
   have hne:b ≠ a:=fun e=>by
    subst e
    exact hj (zc2 w.inj h2 hk)
   exact (w.cel j c' b h1 h2).mono (Ext.new hg o) (zah hne) rfl fun b u x y z=>by
    have nb:b ≠ a:=fun e=>by subst e;exact x (zb0 hk)
    exact ⟨x,by rw [zah nb];exact y,z⟩
 sep:=fun b j i j' i' h1 h2=>by
  have back:∀ {j i},zbN H ι (Ω.set k .dead) j i b→zbN H ι Ω j i b:=fun {j i} h=>by
   have h0:=h
   obtain ⟨a',cls,fs,C,dx,ws,g,h',fd,q1,q2,q3,q4,q5,q6⟩:=h
   by_cases hj:j=k
   ·subst hj
    have hl:j < Ω.length:=by rw [← w.len];exact (List.getElem?_eq_some_iff.mp hk).1
    exact (h0.no (by rw [List.getElem?_set_self hl]) rfl).elim
   ·rw [List.getElem?_set_ne (Ne.symm hj)] at q2
    exact ⟨a',cls,fs,C,dx,ws,g,h',fd,q1,q2,q3,q4,q5,q6⟩
  exact w.sep b j i j' i' (back h1) (back h2)
end
def EnvR (K:PySem.W.Frag) (G:Hp) (ι:List Addr) (σ:L2.St) (ρ:Ev):Prop:=σ.length=ρ.length∧∀ (i:Nat) (d:A),ρ[i]? = some (some d)→∃ v,σ[i]? = some (some v)∧Den K G ι v d
theorem EnvR.ext {K:PySem.W.Frag} {G G':Hp} {ι ι':List Addr} {σ:L2.St} {ρ:Ev} (r:EnvR K G ι σ ρ) (e:Ext G ι G' ι'):EnvR K G' ι' σ ρ:=⟨r.1,fun i d h=>let ⟨v,h1,h2⟩:=r.2 i d h; ⟨v,h1,h2.ext e⟩⟩
theorem EnvR.set {K:PySem.W.Frag} {G:Hp} {ι:List Addr} {σ:L2.St} {ρ:Ev} (r:EnvR K G ι σ ρ) (j:Nat) {v:V} {d:A} (h:Den K G ι v d):EnvR K G ι (σ.set j (some v)) (ρ.set j (some d)):=by
 refine ⟨by rw [List.length_set,List.length_set];exact r.1,fun i e he=>?_⟩
 by_cases hij:i=j
 ·subst hij
  have hl:i < ρ.length:=by
   have:=(List.getElem?_eq_some_iff.mp he).1
   rwa [List.length_set] at this
  rw [List.getElem?_set_self hl] at he
  cases he
  exact ⟨v,List.getElem?_set_self (by rw [r.1];exact hl),h⟩
 ·rw [List.getElem?_set_ne (Ne.symm hij)] at he ⊢
  exact r.2 i e he
def ExcR (K:PySem.W.Frag) (G:Hp) (ι:List Addr) (H:Hp) (x:Exc) (cls:Value) (dx:Option Addr):Prop :=
 (∃ C,PySem.W.nsIn K mainGlobals x.cls=some (some (.ref C))∧cls = .ref C)∧((x.fs=[]∧dx=none)∨∃ d f i,dx=some d∧x.fs=[(f, .int i)]∧G d=some (.xd [(f, .int i)]))
abbrev Rl (α β:Type):=Hp→List Addr→β→α→Prop
def Post {α β:Type} (K:PySem.W.Frag) (rel:Rl α β) (W:WX) (G:Hp) (ι:List Addr) (σ:L2.St) (Q:β→Hp→Prop):Option (Rs α × Sto)→Prop
 | some (.ok a,Ω')=>∀ v H' G' ι',Ext G ι G' ι'→Wd K G' ι' Ω' H'→rel G' ι' v a→Q v H'
 | some (.exc x,Ω')=>∀ cls dx H' G' ι',Ext G ι G' ι'→Wd K G' ι' Ω' H'→ExcR K G' ι' H' x cls dx→W σ cls dx H'
 | none=>False
theorem Post.ext {α β:Type} {K:PySem.W.Frag} {rel:Rl α β} {W:WX} {G G1:Hp} {ι ι1:List Addr} {σ:L2.St} {Q:β→Hp→Prop} {r:Option (Rs α × Sto)} (h:Post K rel W G ι σ Q r) (e:Ext G ι G1 ι1):Post K rel W G1 ι1 σ Q r:=by
 match r,h with
 | some (.ok a,Ω'),h=>exact fun v H' G' ι' x w d=>h v H' G' ι' (e.trans x) w d
 | some (.exc x,Ω'),h=>exact fun cls dx H' G' ι' x w d=>h cls dx H' G' ι' (e.trans x) w d
theorem Post.mb {α β γ δ:Type} {K:PySem.W.Frag} {rel:Rl α β} {rel':Rl γ δ} {W:WX} {G:Hp} {ι:List Addr} {σ:L2.St} {Q:δ→Hp→Prop} {Q1:β→Hp→Prop} {m:Mo α} {k:α→Mo γ} {Ω:Sto} (h:Post K rel' W G ι σ Q (mb m k Ω))
  (hk:∀ a Ω1 v H1 G1 ι1,Ext G ι G1 ι1→Wd K G1 ι1 Ω1 H1→rel G1 ι1 v a→Post K rel' W G1 ι1 σ Q (k a Ω1)→Q1 v H1):Post K rel W G ι σ Q1 (m Ω):=by
 unfold V2.mb at h
 revert h
 generalize m Ω=r
 intro h
 match r,h with
 | some (.ok a,Ω1),h=>exact fun v H1 G1 ι1 x w d=>hk a Ω1 v H1 G1 ι1 x w d (Post.ext h x)
 | some (.exc x,Ω1),h=>exact h
theorem Post.need {α β γ:Type} {K:PySem.W.Frag} {rel':Rl α β} {W:WX} {G:Hp} {ι:List Addr} {σ:L2.St} {Q:β→Hp→Prop} {o:Option γ} {k:γ→Mo α} {Ω:Sto} (h:Post K rel' W G ι σ Q (V2.mb (need o) k Ω)):∃ a,o=some a∧Post K rel' W G ι σ Q (k a Ω):=by
 cases o with
 | none=>exact False.elim h
 | some a=>exact ⟨a,rfl,h⟩
theorem Post.chk {α β:Type} {K:PySem.W.Frag} {rel':Rl α β} {W:WX} {G:Hp} {ι:List Addr} {σ:L2.St} {Q:β→Hp→Prop} {p:Prop} [Decidable p] {k:Unit→Mo α} {Ω:Sto} (h:Post K rel' W G ι σ Q (V2.mb (chk p) k Ω)):p∧Post K rel' W G ι σ Q (k () Ω):=by
 unfold V2.mb V2.chk at h
 by_cases hp:p
 ·rw [if_pos hp] at h;exact ⟨hp,h⟩
 ·rw [if_neg hp] at h;exact False.elim h
def Sim {α β:Type} (K:PySem.W.Frag) (rel:Rl α β) (W:WX) (t:L2.St→Hp→(β→Hp→Prop)→Prop) (f:Ev→Mo α):Prop :=
 ∀ G ι Ω H σ ρ Q,Wd K G ι Ω H→EnvR K G ι σ ρ→Post K rel W G ι σ Q (f ρ Ω)→t σ H Q
def relB:Rl Bool Bool:=fun _ _ b c=>b=c
def VE (X:Cx) (W:WX) (e:Expr) (f:Ev→Mo A):Prop:=∃ t,PE X e t∧Sim X.K (Den X.K) W t f
def VT (X:Cx) (W:WX) (e:Expr) (f:Ev→Mo Bool):Prop:=∃ t,PT X e t∧Sim X.K relB W t f
def VW (X:Cx) (W:WX) (e:Expr) (f:Ev→Mo Bool):Prop:=∃ t,PW X e t∧Sim X.K relB W t f
def VA (X:Cx) (W:WX) (es:List Expr) (f:Ev→Mo (List A)):Prop:=∃ t,PA X es t∧Sim X.K (DenL X.K) W t f
end V2
namespace V2
open PySem PySem.Spec PyProof.Rows L2
section
variable {K:PySem.W.Frag} {G H:Hp} {ι:List Addr} {Ω:Sto} {v:V} {a:A}
def zaj (Ω:Sto):A→Option (List A)
 | .lst ds=>some ds
 | .scr ns=>some (ns.map A.int)
 | .cel k=>match Ω[k]? with
  | some (.lst ds)=>some ds
  | _=>none
 | _=>none
def zaI (Ω:Sto):A→Option (List A)
 | .tup ds=>some ds
 | a=>zaj Ω a
theorem zaF (w:Wd K G ι Ω H) (d:Den K G ι v a) {ds:List A} (h:zaj Ω a=some ds):∃ p xs,v = .ref p∧SqL K H p xs∧DenL K G ι xs ds:=by
 cases a with
 | lst es =>
  simp only [zaj,Option.some.injEq] at h;subst h
  simp only [Den] at d
  obtain ⟨p,xs,h1,h2,h3⟩:=d
  exact ⟨p,xs,h1,SqL.of (w.sub _ _ h2),h3⟩
 | scr ns =>
  simp only [zaj,Option.some.injEq] at h;subst h
  simp only [Den] at d
  obtain ⟨p,h1,h2⟩:=d
  exact ⟨p,_,h1,w.sub.seq h2,zfc ns⟩
 | cel k =>
  simp only [zaj] at h
  cases e:Ω[k]? with
  | none=>rw [e] at h;cases h
  | some c =>
   rw [e] at h
   cases c with
   | lst es =>
    simp only [Option.some.injEq] at h;subst h
    simp only [Den] at d
    obtain ⟨p,h1,h2⟩:=d
    obtain ⟨g,xs,h3,h4⟩:=w.cel k _ p e h2
    exact ⟨p,xs,h1,SqL.of h3,h4⟩
   | _=>cases h
 | _=>simp [zaj] at h
theorem zc7 (w:Wd K G ι Ω H) (d:Den K G ι v a) {ds:List A} (h:zaI Ω a=some ds):∃ p xs,v = .ref p∧(SqL K H p xs∨SqT K H p xs)∧DenL K G ι xs ds:=by
 cases a with
 | tup es =>
  simp only [zaI,Option.some.injEq] at h;subst h
  simp only [Den] at d
  obtain ⟨p,xs,h1,h2,h3⟩:=d
  exact ⟨p,xs,h1, .inr (SqT.of (w.sub _ _ h2)),h3⟩
 | _ =>
  obtain ⟨p,xs,h1,h2,h3⟩:=zaF w d h
  exact ⟨p,xs,h1, .inl h2,h3⟩
theorem zgK (w:Wd K G ι Ω H) (d:Den K G ι v a) {ds:List A} (h:zaj Ω a=some ds) (hs:∀ ns,a ≠ .scr ns):∃ p xs,v = .ref p∧H p=some (.lst xs)∧DenL K G ι xs ds:=by
 cases a with
 | lst es =>
  simp only [zaj,Option.some.injEq] at h;subst h
  simp only [Den] at d
  obtain ⟨p,xs,h1,h2,h3⟩:=d
  exact ⟨p,xs,h1,w.sub _ _ h2,h3⟩
 | scr ns=>exact absurd rfl (hs ns)
 | cel k =>
  simp only [zaj] at h
  cases e:Ω[k]? with
  | none=>rw [e] at h;cases h
  | some c =>
   rw [e] at h
   cases c with
   | lst es =>
    simp only [Option.some.injEq] at h;subst h
    simp only [Den] at d
    obtain ⟨p,h1,h2⟩:=d
    obtain ⟨g,xs,h3,h4⟩:=w.cel k _ p e h2
    exact ⟨p,xs,h1,h3,h4⟩
   | _=>cases h
 | _=>simp [zaj] at h
end
@[simp] def mkL (c:Bool) (ds:List A):Mo A:=fun Ω=>if c then some (.ok (.cel Ω.length),Ω ++ [.lst ds]) else some (.ok (.lst ds),Ω)
section
variable {K:PySem.W.Frag} {G H:Hp} {ι:List Addr} {Ω:Sto} {W:WX} {σ:L2.St} {Q:VK}
theorem zfv {c:Bool} {ds:List A} {xs:List V} {p:Addr} (w:Wd K G ι Ω H) (hp:H p=none) (d:DenL K G ι xs ds) (h:Post K (Den K) W G ι σ Q (mkL c ds Ω)):Q (.ref p) (upd H p (.lst xs)):=by
 cases c with
 | true =>
  refine h _ _ G (ι ++ [p]) (Ext.cell p) (w.cell hp ⟨w.zcM hp,xs,zas,d.ext (Ext.cell p)⟩) ?_
  simp only [Den]
  exact ⟨p,rfl,by rw [← w.len];simp⟩
 | false =>
  refine h _ _ _ _ (Ext.new (w.zcM hp) (.lst xs)) (w.new hp _) ?_
  simp only [Den]
  exact ⟨p,xs,rfl,zas,d.ext (Ext.new (w.zcM hp) _)⟩
@[simp] def mkT (ds:List A):Mo A:=ret (.tup ds)
theorem zgV {ds:List A} {xs:List V} {p:Addr} (w:Wd K G ι Ω H) (hp:H p=none) (d:DenL K G ι xs ds) (h:Post K (Den K) W G ι σ Q (mkT ds Ω)):Q (.ref p) (upd H p (.tup xs)):=by
 refine h _ _ _ _ (Ext.new (w.zcM hp) (.tup xs)) (w.new hp _) ?_
 simp only [Den]
 exact ⟨p,xs,rfl,zas,d.ext (Ext.new (w.zcM hp) _)⟩
theorem zaw {α β:Type} {rel:Rl α β} {Q:β→Hp→Prop} {a:α} {b:β} (w:Wd K G ι Ω H) (d:rel G ι b a) (h:Post K rel W G ι σ Q (ret a Ω)):Q b H:=h b H G ι (Ext.refl _ _) w d
end
section
variable {X:Cx} {W:WX} {e a b:Expr} {es:List Expr} {pos:Pos} {fa fb:Ev→Mo A} {fs:Ev→Mo (List A)}
@[simp] def vVar (i:Nat):Ev→Mo A:=fun ρ=>need (ρ[i]?).join
theorem join_some {α:Type} {o:Option (Option α)} {x:α} (h:o.join=some x):o=some (some x):=by
 cases o with
 | none=>cases h
 | some y=>cases y with
  | none=>cases h
  | some z=>cases h;rfl
theorem zle {K:PySem.W.Frag} {i:Nat}:Sim K (Den K) W (tVar i) (vVar i):=by
 intro G ι Ω H σ ρ Q w r h
 unfold vVar need at h
 cases e:(ρ[i]?).join with
 | none=>rw [e] at h;exact False.elim h
 | some d =>
  rw [e] at h
  obtain ⟨v,h1,h2⟩:=r.2 i d (join_some e)
  exact ⟨v,h1,h v H G ι (Ext.refl _ _) w h2⟩
theorem vv (i:Nat) {x:Str} (hN:X.N[i]? = some x:=by rfl) (hv:Vis X.env.scope x:=by first | exact Or.inl rfl | exact Or.inr (Or.inl rfl) | exact Or.inr (Or.inr rfl)) (hd:(x == ("__debug__" : Str))=false:=by decide)
  (hcd:(x == ("__classdict__" : Str))=false:=by decide):VE X W (.Name x pos) (vVar i):=⟨_,zj2 hN hv hd hcd,zle⟩
@[simp] def vFrz (i:Nat):Ev→Mo A:=fun ρ Ω=>match (ρ[i]?).join with
 | some (.cel k)=>match Ω[k]? with
  | some (.lst ds)=>some (.ok (.lst ds),Ω.set k .dead)
  | _=>none
 | _=>none
theorem zkl {K:PySem.W.Frag} {i:Nat}:Sim K (Den K) W (tVar i) (vFrz i):=by
 intro G ι Ω H σ ρ Q w r h
 unfold vFrz at h
 cases e:(ρ[i]?).join with
 | none=>rw [e] at h;exact False.elim h
 | some d =>
  rw [e] at h
  cases d with
  | cel k =>
   simp only at h
   cases e2:Ω[k]? with
   | none=>rw [e2] at h;exact False.elim h
   | some c =>
    rw [e2] at h
    cases c with
    | lst ds =>
     obtain ⟨v,h1,h2⟩:=r.2 i _ (join_some e)
     simp only [Den] at h2
     obtain ⟨p,rfl,h4⟩:=h2
     obtain ⟨g,xs,h5,h6⟩:=w.cel k _ p e2 h4
     refine ⟨_,h1,h _ H (upd G p (.lst xs)) ι (Ext.new g _) (w.freeze h4 g h5) ?_⟩
     simp only [Den]
     exact ⟨p,xs,rfl,zas,h6.ext (Ext.new g _)⟩
    | _=>exact False.elim h
  | _=>exact False.elim h
theorem vf (i:Nat) {x:Str} (hN:X.N[i]? = some x:=by rfl) (hv:Vis X.env.scope x:=by first | exact Or.inl rfl | exact Or.inr (Or.inl rfl) | exact Or.inr (Or.inr rfl)) (hd:(x == ("__debug__" : Str))=false:=by decide)
  (hcd:(x == ("__classdict__" : Str))=false:=by decide):VE X W (.Name x pos) (vFrz i):=⟨_,zj2 hN hv hd hcd,zkl⟩
theorem ziN {K:PySem.W.Frag} {v:V} {d:A} (h:∀ G ι,Den K G ι v d):Sim K (Den K) W (tC v) (fun _=>ret d):=fun G ι _ _ _ _ _ w _ q=>zaw w (h G ι) q
theorem zae {i:Int} {j}:VE X W (.Constant (.int i) j pos) (fun _=>ret (.int i)):=⟨_,zna,ziN fun _ _=>by simp only [Den]⟩
theorem zet {i:Bool} {j}:VE X W (.Constant (.bool i) j pos) (fun _=>ret (.bl i)):=⟨_,zni,ziN fun _ _=>by simp only [Den]⟩
theorem zbS {x:Str} {j}:VE X W (.Constant (.str x) j pos) (fun _=>ret (.str x)):=⟨_,zmh,ziN fun _ _=>by simp only [Den]⟩
theorem zjv {x:Str} {i:Int} (hg:Gl X x) (hm:∃ t,X.mg x=some (.int i t)) (hd:(x == ("__debug__" : Str))=false:=by decide):VE X W (.Name x pos) (fun _=>ret (.int i)):=by
 obtain ⟨t,hm⟩:=hm
 exact ⟨_,zlh (v := .int i) hg hm ⟨t,rfl⟩ hd,ziN fun _ _=>by simp only [Den]⟩
theorem zfA {x:Str} {n:String} (hg:Gl X x) (hm:X.mg x=none) (hv:bootBuiltins x=some (.type n)) (hn:x ≠ "__name__":=by decide) (hd:(x == ("__debug__" : Str))=false:=by decide):VE X W (.Name x pos) (fun _=>ret (.ty n)) :=
 ⟨_,zkD (v := .ty n) hg hm hv rfl hn hd,ziN fun _ _=>by simp only [Den]⟩
theorem zad:VA X W [] (fun _=>ret []):=⟨_,zgm,fun _ _ _ _ _ _ _ w _ q=>zaw w .nil q⟩
@[simp] def zac (f:Ev→Mo A) (g:Ev→Mo (List A)):Ev→Mo (List A):=fun ρ=>mb (f ρ) fun x=>mb (g ρ) fun xs=>ret (x :: xs)
theorem zab (h1:VE X W e fa) (h2:VA X W es fs) (hs:starEach (e :: es) X.env=(false,eval e X.env) :: starEach es X.env:=by rfl):VA X W (e :: es) (zac fa fs):=by
 obtain ⟨t,p1,s1⟩:=h1
 obtain ⟨u,p2,s2⟩:=h2
 refine ⟨_,zdQ p1 p2 hs,fun G ι Ω H σ ρ Q w r h=>?_⟩
 refine s1 G ι Ω H σ ρ _ w r (Post.mb h fun x Ω1 v H1 G1 ι1 x1 w1 d1 h1=>?_)
 refine s2 G1 ι1 Ω1 H1 σ ρ _ w1 (r.ext x1) (Post.mb h1 fun xs Ω2 vs H2 G2 ι2 x2 w2 d2 h2=>?_)
 exact zaw w2 (.cons (d1.ext x2) d2) h2
@[simp] def vTup (g:Ev→Mo (List A)):Ev→Mo A:=fun ρ=>mb (g ρ) fun xs=>mb (chk (xs.length ≤ sizeLine)) fun _=>mkT xs
theorem zfI {k} (h:VA X W es fs):VE X W (.Tuple es k pos) (vTup fs):=by
 obtain ⟨t,p,s⟩:=h
 refine ⟨_,zmj p,fun G ι Ω H σ ρ Q w r h=>?_⟩
 refine s G ι Ω H σ ρ _ w r (Post.mb h fun xs Ω1 vs H1 G1 ι1 x1 w1 d1 h1=>?_)
 obtain ⟨hl,h2⟩:=Post.chk h1
 exact ⟨by rw [d1.length];exact hl,fun p hp=>zgV w1 hp d1 h2⟩
@[simp] def vLst (c:Bool) (g:Ev→Mo (List A)):Ev→Mo A:=fun ρ=>mb (g ρ) fun xs=>mb (chk (xs.length ≤ sizeLine)) fun _=>mkL c xs
theorem zeb (c:Bool) (h:VA X W es fs):VE X W (.List es pos) (vLst c fs):=by
 obtain ⟨t,p,s⟩:=h
 refine ⟨_,zlJ p,fun G ι Ω H σ ρ Q w r h=>?_⟩
 refine s G ι Ω H σ ρ _ w r (Post.mb h fun xs Ω1 vs H1 G1 ι1 x1 w1 d1 h1=>?_)
 obtain ⟨hl,h2⟩:=Post.chk h1
 exact ⟨by rw [d1.length];exact hl,fun p hp=>zfv w1 hp d1 h2⟩
def OpV (K:PySem.W.Frag) (W:WX) (r:R2) (g:A→A→Mo A):Prop :=
 ∀ G ι Ω H σ x y a b Q,Wd K G ι Ω H→Den K G ι x a→Den K G ι y b→Post K (Den K) W G ι σ Q (g a b Ω)→r x y H Q
def OpOk (X:Cx) (W:WX) (f:Value→Value→Sem Value) (g:A→A→Mo A):Prop:=∃ r,OpR X f r∧OpV X.K W r g
@[simp] def vOp (g:A→A→Mo A) (f h:Ev→Mo A):Ev→Mo A:=fun ρ=>mb (f ρ) fun x=>mb (h ρ) fun y=>g x y
theorem ze0 {K:PySem.W.Frag} {r:R2} {g:A→A→Mo A} {ta tb:TE} (ho:OpV K W r g) (h1:Sim K (Den K) W ta fa) (h2:Sim K (Den K) W tb fb):Sim K (Den K) W (tOp r ta tb) (vOp g fa fb):=by
 intro G ι Ω H σ ρ Q w q h
 refine h1 G ι Ω H σ ρ _ w q (Post.mb h fun x Ω1 v H1 G1 ι1 x1 w1 d1 h1=>?_)
 refine h2 G1 ι1 Ω1 H1 σ ρ _ w1 (q.ext x1) (Post.mb h1 fun y Ω2 u H2 G2 ι2 x2 w2 d2 h2=>?_)
 exact ho G2 ι2 Ω2 H2 σ v u x y Q w2 (d1.ext x2) d2 h2
theorem zav {op:Operator} {g:A→A→Mo A} (ho:OpOk X W (binaryOp op) g) (ha:VE X W a fa) (hb:VE X W b fb):VE X W (.BinOp a op b pos) (vOp g fa fb):=by
 obtain ⟨r,o1,o2⟩:=ho
 obtain ⟨t,p1,s1⟩:=ha
 obtain ⟨u,p2,s2⟩:=hb
 exact ⟨_,znj o1 p1 p2,ze0 o2 s1 s2⟩
@[simp] def gI (C:Int→Int→Prop) [∀ i j,Decidable (C i j)] (g:Int→Int→A):A→A→Mo A
 | .int i, .int j=>mb (chk (C i j)) fun _=>ret (g i j)
 | _,_=>stuck
theorem zjI {K:PySem.W.Frag} {C:Int→Int→Prop} [∀ i j,Decidable (C i j)] {g:Int→Int→V} {g':Int→Int→A} (hg:∀ G ι i j,Den K G ι (g i j) (g' i j)):OpV K W (rI C g) (gI C g'):=by
 intro G ι Ω H σ x y a b Q w d1 d2 h
 cases a with
 | int i =>
  cases b with
  | int j =>
   simp only [Den] at d1 d2
   obtain ⟨hc,h2⟩:=Post.chk h
   exact ⟨i,j,d1,d2,hc,zaw w (hg _ _ _ _) h2⟩
  | _=>exact False.elim h
 | _=>exact False.elim h
@[simp] def gI0 (g:Int→Int→A):A→A→Mo A
 | .int i, .int j=>ret (g i j)
 | _,_=>stuck
theorem zgN {K:PySem.W.Frag} {g:Int→Int→V} {g':Int→Int→A} (hg:∀ G ι i j,Den K G ι (g i j) (g' i j)):OpV K W (rI0 g) (gI0 g'):=by
 intro G ι Ω H σ x y a b Q w d1 d2 h
 cases a with
 | int i =>
  cases b with
  | int j =>
   simp only [Den] at d1 d2
   exact ⟨i,j,d1,d2,zaw w (hg _ _ _ _) h⟩
  | _=>exact False.elim h
 | _=>exact False.elim h
instance:∀ i j,Decidable (CMul i j):=fun i j=>by unfold CMul;infer_instance
instance:∀ i j,Decidable (CDiv i j):=fun i j=>by unfold CDiv;infer_instance
instance:∀ i j,Decidable (CPow i j):=fun i j=>by unfold CPow;infer_instance
@[simp] def gSub:=gI0 fun i j => .int (i - j)
@[simp] def gMul:=gI CMul fun i j => .int (i * j)
@[simp] def gDiv:=gI CDiv fun i j => .int (i / j)
@[simp] def gMod:=gI (fun _ j=>0 < j) fun i j => .int (i % j)
@[simp] def gPow:=gI CPow fun i j => .int (i ^ j.toNat)
theorem zfX:OpOk X W (binaryOp .Sub) gSub:=⟨_,zmP,zgN fun _ _ _ _=>by simp only [Den]⟩
theorem zfL:OpOk X W (binaryOp .Mult) gMul:=⟨_,zms,zjI fun _ _ _ _=>by simp only [Den]⟩
theorem zih:OpOk X W (binaryOp .FloorDiv) gDiv:=⟨_,zkh,zjI fun _ _ _ _=>by simp only [Den]⟩
theorem zds:OpOk X W (binaryOp .Mod) gMod:=⟨_,zmH,zjI fun _ _ _ _=>by simp only [Den]⟩
theorem zlx:OpOk X W (binaryOp .Pow) gPow:=⟨_,zmQ,zjI fun _ _ _ _=>by simp only [Den]⟩
@[simp] def zhJ:A→Bool
 | .scr _=>true
 | _=>false
theorem zjO {a:A} (h:zhJ a=false):∀ ns,a ≠ .scr ns:=fun ns e=>by subst e;cases h
@[simp] def gCat (c:Bool) (a b:A):Mo A:=fun Ω=>match zaj Ω a,zaj Ω b with
  | some xs,some ys=>if zhJ a || zhJ b || decide (sizeLine < xs.length + ys.length) then none else mkL c (xs ++ ys) Ω
  | _,_=>none
@[simp] def gAdd (c:Bool):A→A→Mo A
 | .int i, .int j=>ret (.int (i + j))
 | .tup xs, .tup ys=>mb (chk (0 < xs.length∧xs.length + ys.length ≤ sizeLine)) fun _=>mkT (xs ++ ys)
 | a,b=>gCat c a b
theorem zkT {K:PySem.W.Frag} {c:Bool}:OpV K W rCat (gCat c):=by
 intro G ι Ω H σ x y a b Q w d1 d2 h
 unfold gCat at h
 match e1:zaj Ω a,e2:zaj Ω b with
 | none,_=>rw [e1] at h;exact False.elim h
 | some xs,none=>rw [e1,e2] at h;exact False.elim h
 | some xs,some ys =>
  rw [e1,e2] at h
  simp only at h
  by_cases hb:(zhJ a || zhJ b || decide (sizeLine < xs.length + ys.length))=true
  ·rw [if_pos hb] at h;exact False.elim h
  ·rw [if_neg hb] at h
   simp only [Bool.or_eq_true,decide_eq_true_eq,not_or,Bool.not_eq_true] at hb
   obtain ⟨p,us,rfl,h2,h3⟩:=zgK w d1 e1 (zjO hb.1.1)
   obtain ⟨q,ws,rfl,h5,h6⟩:=zgK w d2 e2 (zjO hb.1.2)
   exact ⟨p,q,us,ws,rfl,rfl,h2,h5,by rw [h3.length,h6.length];omega,fun r hr=>zfv w hr (h3.append h6) h⟩
theorem zcl (c:Bool):OpOk X W (binaryOp .Add) (gAdd c):=by
 refine ⟨_,zl0.or (zm1.or zkS),?_⟩
 intro G ι Ω H σ x y a b Q w d1 d2 h
 unfold gAdd at h
 split at h
 ·simp only [Den] at d1 d2
  exact .inl ⟨_,_,d1,d2,zaw w (by simp only [Den]) h⟩
 ·rename_i xs ys
  simp only [Den] at d1 d2
  obtain ⟨p,us,rfl,h2,h3⟩:=d1
  obtain ⟨q,ws,rfl,h5,h6⟩:=d2
  obtain ⟨⟨c1,c2⟩,h⟩:=Post.chk h
  refine .inr (.inr ⟨p,q,us,ws,rfl,rfl,SqT.of (w.sub _ _ h2),SqT.of (w.sub _ _ h5),?_,by rw [h3.length,h6.length];exact c2,fun e=>?_,fun _ r hr=>zgV w hr (h3.append h6) h⟩)
  ·intro e
   subst e
   have:=h3.length
   simp at this
   omega
  ·subst e
   refine zaw w ?_ h
   simp only [Den]
   exact ⟨p,us,rfl,h2,by simpa using h3.append h6⟩
 ·exact .inr (.inl (zkT G ι Ω H σ x y _ _ Q w d1 d2 h))
end
end V2
namespace V2
open PySem PySem.Spec PyProof.Rows L2
def pur:Nat→A→Bool
 | _, .int _=>true
 | _, .bl _=>true
 | _, .non=>true
 | _, .str x=>PyData.canLay0 (.str x)
 | n + 1, .tup ds=>ds.all (pur n)
 | n + 1, .lst ds=>ds.all (pur n)
 | _,_=>false
def zeZ (f:A→A→Bool):List A→List A→Bool
 | [],[]=>true
 | x :: xs,y :: ys=>f x y && zeZ f xs ys
 | _,_=>false
def eqA:Nat→A→A→Bool
 | _, .int i, .int j=>i == j
 | _, .bl i, .bl j=>i == j
 | _, .bl i, .int j=>(if i then 1 else 0) == j
 | _, .int i, .bl j=>i == (if j then 1 else 0)
 | _, .non, .non=>true
 | _, .str x, .str y=>x == y
 | n + 1, .tup xs, .tup ys=>zeZ (eqA n) xs ys
 | n + 1, .lst xs, .lst ys=>zeZ (eqA n) xs ys
 | _,_,_=>false
def toPy:Nat→A→PyData
 | _, .int i => .int i
 | _, .bl i => .bool i
 | _, .str x => .str x
 | n + 1, .tup ds => .tuple (ds.map (toPy n))
 | n + 1, .lst ds => .list (ds.map (toPy n))
 | _,_ => .none
theorem zhH:∀ (ds:List A) (n:Nat),(∀ d ∈ ds,pur n d=true→PyData.canLay0 (toPy n d)=true)→ds.all (pur n)=true→PyData.canLayAll0 (ds.map (toPy n))=true
 | [],_,_,_=>rfl
 | d :: ds,n,ih,h=>by
  simp only [List.all_cons,Bool.and_eq_true] at h
  simp only [List.map_cons,PyData.canLayAll0,Bool.and_eq_true]
  exact ⟨ih d (List.mem_cons_self ..) h.1,zhH ds n (fun e he=>ih e (List.mem_cons_of_mem _ he)) h.2⟩
theorem zdA:∀ (n:Nat) (a:A),pur n a=true→PyData.canLay0 (toPy n a)=true:=by
 intro n
 induction n with
 | zero=>intro a h;cases a <;> first | rfl | exact h | cases h
 | succ n ih =>
  intro a h
  cases a with
  | tup ds=>exact zhH ds n (fun d _=>ih d) h
  | lst ds=>exact zhH ds n (fun d _=>ih d) h
  | str x=>exact h
  | int i=>rfl
  | bl b=>rfl
  | non=>rfl
  | _=>cases h
theorem ziM:∀ (ds:List A) (n:Nat),(∀ d ∈ ds,(toPy n d).depth ≤ n)→PyData.depthAll (ds.map (toPy n)) ≤ n
 | [],_,_=>Nat.zero_le _
 | d :: ds,n,ih=>by
  simp only [List.map_cons,PyData.depthAll]
  exact Nat.max_le.mpr ⟨ih d (List.mem_cons_self ..),ziM ds n fun e he=>ih e (List.mem_cons_of_mem _ he)⟩
theorem zec:∀ (n:Nat) (a:A),(toPy n a).depth ≤ n:=by
 intro n
 induction n with
 | zero=>intro a;cases a <;> exact Nat.le_refl _
 | succ n ih =>
  intro a
  cases a with
  | tup ds=>exact Nat.succ_le_succ (ziM ds n fun d _=>ih d)
  | lst ds=>exact Nat.succ_le_succ (ziM ds n fun d _=>ih d)
  | _=>exact Nat.zero_le _
theorem zjX:∀ (xs ys:List A) (n:Nat),(∀ x ∈ xs,∀ y ∈ ys,PyData.eqv (toPy n x) (toPy n y)=eqA n x y)→PyData.eqvAll (xs.map (toPy n)) (ys.map (toPy n))=zeZ (eqA n) xs ys
 | [],[],_,_=>rfl
 | [],_ :: _,_,_=>rfl
 | _ :: _,[],_,_=>rfl
 | x :: xs,y :: ys,n,ih=>by
  simp only [List.map_cons,PyData.eqvAll,zeZ]
  rw [ih x (List.mem_cons_self ..) y (List.mem_cons_self ..),zjX xs ys n fun a ha b hb=>ih a (List.mem_cons_of_mem _ ha) b (List.mem_cons_of_mem _ hb)]
theorem zgL:∀ (n:Nat) (a b:A),pur n a=true→pur n b=true→PyData.eqv (toPy n a) (toPy n b)=eqA n a b:=by
 intro n
 induction n with
 | zero=>intro a b ha hb;cases a <;> cases b <;> first | rfl | (simp [pur] at ha;done) | (simp [pur] at hb;done)
 | succ n ih =>
  intro a b ha hb
  have lst:∀ xs ys:List A,xs.all (pur n)=true→ys.all (pur n)=true→PyData.eqvAll (xs.map (toPy n)) (ys.map (toPy n))=zeZ (eqA n) xs ys:=fun xs ys h1 h2 =>
   zjX xs ys n fun x hx y hy=>ih x y (List.all_eq_true.mp h1 x hx) (List.all_eq_true.mp h2 y hy)
  cases a <;> cases b <;> first | rfl | (simp [pur] at ha;done) | (simp [pur] at hb;done) | exact lst _ _ ha hb
section
variable {X:Cx} {pins:List (Addr × Obj)} {σ:L2.St} {H:Hp} {s:Shared} {ι:List Addr}
theorem readsAll (n:Nat) (ih:∀ (v:V) (u:Value) (a:A),pur n a=true→Den X.K H ι v a→RelV v u→∃ as,Reads s.heap u (toPy n a) as) :
  ∀ (ds:List A) (xs:List V) (us:List Value),ds.all (pur n)=true→DenL X.K H ι xs ds→Vals xs us→∃ as,ReadsAll s.heap us (ds.map (toPy n)) as
 | [],xs,us,_,d,r=>by
  rw [za2] at d;subst d;cases r;exact ⟨_, .nil⟩
 | a :: ds,xs,us,h,d,r=>by
  obtain ⟨x,t,rfl,d1,d2⟩:=d.zbu
  simp only [List.all_cons,Bool.and_eq_true] at h
  cases r with
  | cons r1 r2 =>
   obtain ⟨as,q1⟩:=ih _ _ _ h.1 d1 r1
   obtain ⟨bs,q2⟩:=readsAll n ih ds _ _ h.2 d2 r2
   exact ⟨_, .cons q1 q2⟩
theorem zdw (I:Inv X pins σ H s):∀ (n:Nat) (v:V) (u:Value) (a:A),pur n a=true→Den X.K H ι v a→RelV v u→∃ as,Reads s.heap u (toPy n a) as:=by
 intro n
 induction n with
 | zero =>
  intro v u a h d r
  cases a with
  | int i=>simp only [Den] at d;subst d;obtain ⟨t,rfl⟩:=r;exact ⟨_, .int i t⟩
  | bl b=>simp only [Den] at d;subst d;cases r;exact ⟨_, .bool b⟩
  | str x=>simp only [Den] at d;subst d;obtain ⟨t,rfl⟩:=r;exact ⟨_, .str x t⟩
  | non=>simp only [Den] at d;subst d;cases r;exact ⟨_, .none⟩
  | _=>cases h
 | succ n ih =>
  intro v u a h d r
  cases a with
  | int i=>simp only [Den] at d;subst d;obtain ⟨t,rfl⟩:=r;exact ⟨_, .int i t⟩
  | bl b=>simp only [Den] at d;subst d;cases r;exact ⟨_, .bool b⟩
  | str x=>simp only [Den] at d;subst d;obtain ⟨t,rfl⟩:=r;exact ⟨_, .str x t⟩
  | non=>simp only [Den] at d;subst d;cases r;exact ⟨_, .none⟩
  | tup ds =>
   simp only [Den] at d
   obtain ⟨p,xs,rfl,h2,h3⟩:=d
   cases r
   obtain ⟨its,rv,pl,hz⟩:=I.tuple (SqT.of h2)
   obtain ⟨as,q⟩:=readsAll n ih ds xs its h h3 rv
   obtain ⟨o,ho,hc,m,hd⟩:=(show s.heap.IsTuple p its.toArray from pl)
   exact ⟨_, .tuple ho hc hd (by simpa using q)⟩
  | lst ds =>
   simp only [Den] at d
   obtain ⟨p,xs,rfl,h2,h3⟩:=d
   cases r
   obtain ⟨its,rv,pl,hz⟩:=I.list (SqL.of h2)
   obtain ⟨as,q⟩:=readsAll n ih ds xs its h h3 rv
   obtain ⟨o,ho,hc,m,hd⟩:=pl.isList
   exact ⟨_, .list ho hc hd (by simpa using q)⟩
  | _=>cases h
end
def rEqA (K:PySem.W.Frag) (neg:Bool):R2:=fun x y H Q=>∃ ι a b,pur 8 a=true∧pur 8 b=true∧Den K H ι x a∧Den K H ι y b∧Q (.bl (if neg then !eqA 8 a b else eqA 8 a b)) H
theorem zm8 {X:Cx} (hu:X.A.units + 64 < cLine):OpR X (compareOp .Eq) (rEqA X.K false):=by
 intro pins s σ H x y v u Q I rx ry h
 obtain ⟨ι,a,b,h1,h2,d1,d2,q⟩:=h
 obtain ⟨as,q1⟩:=zdw I 8 x v a h1 d1 rx
 obtain ⟨bs,q2⟩:=zdw I 8 y u b h2 d2 ry
 have e1:=zec 8 a
 refine SeqAt.compareEq_reads q1 q2 (zdA 8 a h1) (zdA 8 b h2) (by omega) ?_
 rw [zgL 8 a b h1 h2]
 exact ⟨.bl (eqA 8 a b),H,I,rfl,q⟩
theorem zlQ {X:Cx} (hu:X.A.units + 64 < cLine):OpR X (compareOp .NotEq) (rEqA X.K true):=by
 intro pins s σ H x y v u Q I rx ry h
 obtain ⟨ι,a,b,h1,h2,d1,d2,q⟩:=h
 obtain ⟨as,q1⟩:=zdw I 8 x v a h1 d1 rx
 obtain ⟨bs,q2⟩:=zdw I 8 y u b h2 d2 ry
 have e1:=zec 8 a
 refine SeqAt.compareNe_reads q1 q2 (zdA 8 a h1) (zdA 8 b h2) (by omega) ?_
 rw [zgL 8 a b h1 h2]
 exact ⟨.bl (!eqA 8 a b),H,I,rfl,q⟩
def mapO (f:A→Option A):List A→Option (List A)
 | []=>some []
 | x :: xs=>match f x,mapO f xs with
  | some y,some ys=>some (y :: ys)
  | _,_=>none
def res (Ω:Sto):Nat→A→Option A
 | 0,a=>if pur 8 a=true then some a else none
 | n + 1,a=>if pur 8 a=true then some a else match a with
  | .tup ds=>(mapO (res Ω n) ds).map .tup
  | .lst ds=>(mapO (res Ω n) ds).map .lst
  | .cel k=>match Ω[k]? with
   | some (.lst ds)=>(mapO (res Ω n) ds).map .lst
   | _=>none
  | _=>none
section
variable {K:PySem.W.Frag} {G H:Hp} {ι:List Addr} {Ω:Sto}
theorem Wd.extH (w:Wd K G ι Ω H):Ext G ι H ι:=⟨w.sub,fun _ _ h=>h⟩
theorem zeJ {f:A→Option A} (ih:∀ v a b,Den K G ι v a→f a=some b→Den K H ι v b):∀ (ds es:List A) (xs:List V),DenL K G ι xs ds→mapO f ds=some es→DenL K H ι xs es
 | [],es,xs,d,h=>by
  simp only [mapO,Option.some.injEq] at h;subst h
  rw [za2] at d ⊢;exact d
 | a :: ds,es,xs,d,h=>by
  obtain ⟨x,t,rfl,d1,d2⟩:=d.zbu
  simp only [mapO] at h
  split at h
  ·rename_i y ys e1 e2
   cases h
   exact .cons (ih _ _ _ d1 e1) (zeJ ih ds ys t d2 e2)
  ·cases h
theorem zjT (w:Wd K G ι Ω H):∀ (n:Nat) (v:V) (a b:A),Den K G ι v a→res Ω n a=some b→Den K H ι v b:=by
 intro n
 induction n with
 | zero =>
  intro v a b d h
  simp only [res] at h
  split at h
  ·cases h;exact d.ext w.extH
  ·cases h
 | succ n ih =>
  intro v a b d h
  simp only [res] at h
  split at h
  ·cases h;exact d.ext w.extH
  ·split at h
   ·rename_i ds _
    simp only [Option.map_eq_some_iff] at h
    obtain ⟨es,h1,rfl⟩:=h
    simp only [Den] at d ⊢
    obtain ⟨p,xs,q1,q2,q3⟩:=d
    exact ⟨p,xs,q1,w.sub _ _ q2,zeJ ih ds es xs q3 h1⟩
   ·rename_i ds _
    simp only [Option.map_eq_some_iff] at h
    obtain ⟨es,h1,rfl⟩:=h
    simp only [Den] at d ⊢
    obtain ⟨p,xs,q1,q2,q3⟩:=d
    exact ⟨p,xs,q1,w.sub _ _ q2,zeJ ih ds es xs q3 h1⟩
   ·rename_i k _
    split at h
    ·rename_i ds e
     simp only [Option.map_eq_some_iff] at h
     obtain ⟨es,h1,rfl⟩:=h
     simp only [Den] at d ⊢
     obtain ⟨p,q1,q2⟩:=d
     obtain ⟨g,xs,q3,q4⟩:=w.cel k _ p e q2
     exact ⟨p,xs,q1,q3,zeJ ih ds es xs q4 h1⟩
    ·cases h
   ·cases h
end
def gEqB (neg:Bool) (a b:A):Mo A:=fun Ω=>match res Ω 6 a,res Ω 6 b with
 | some x,some y=>if (pur 8 x && pur 8 y)=true then some (.ok (.bl (if neg then !eqA 8 x y else eqA 8 x y)),Ω) else none
 | _,_=>none
def gEq:=gEqB false
def gNe:=gEqB true
section
variable {X:Cx} {W:WX} {e a b c:Expr} {pos:Pos} {fa fb fc:Ev→Mo A} {ta tb:Ev→Mo Bool}
theorem zhG {K:PySem.W.Frag} {neg:Bool}:OpV K W (rEqA K neg) (gEqB neg):=by
 intro G ι Ω H σ x y a b Q w d1 d2 h
 unfold gEqB at h
 split at h
 ·rename_i a' b' e1 e2
  split at h
  ·rename_i hp
   rw [Bool.and_eq_true] at hp
   exact ⟨ι,a',b',hp.1,hp.2,zjT w 6 x a a' d1 e1,zjT w 6 y b b' d2 e2,h _ H G ι (Ext.refl _ _) w (by simp only [Den])⟩
  ·exact False.elim h
 ·exact False.elim h
theorem o_eq (hu:X.A.units + 64 < cLine):OpOk X W (compareOp .Eq) gEq:=⟨_,zm8 hu,zhG⟩
theorem o_ne (hu:X.A.units + 64 < cLine):OpOk X W (compareOp .NotEq) gNe:=⟨_,zlQ hu,zhG⟩
@[simp] def gLt:=gI0 fun i j => .bl (decide (i < j))
@[simp] def gGt:=gI0 fun i j => .bl (decide (j < i))
@[simp] def gGe:=gI0 fun i j => .bl (decide (j ≤ i))
theorem o_lt:OpOk X W (compareOp .Lt) gLt:=⟨_,znC,zgN fun _ _ _ _=>by simp only [Den]⟩
theorem o_gt:OpOk X W (compareOp .Gt) gGt:=⟨_,znp,zgN fun _ _ _ _=>by simp only [Den]⟩
theorem o_ge:OpOk X W (compareOp .GtE) gGe:=⟨_,znJ,zgN fun _ _ _ _=>by simp only [Den]⟩
def zhY:A→Option Bool
 | .non=>some true
 | _=>some false
@[simp] def zi1:A→Mo Bool
 | .bl b=>ret b
 | _=>stuck
@[simp] def zbE (f:Ev→Mo A):Ev→Mo Bool:=fun ρ=>mb (f ρ) zi1
theorem zgD {K:PySem.W.Frag} {t:TE} (h:Sim K (Den K) W t fa):Sim K relB W (zmn t) (zbE fa):=by
 intro G ι Ω H σ ρ Q w r q
 refine h G ι Ω H σ ρ _ w r (Post.mb q fun x Ω1 v H1 G1 ι1 x1 w1 d1 h1=>?_)
 cases x with
 | bl b=>simp only [Den] at d1;exact ⟨b,d1,zaw w1 rfl h1⟩
 | _=>exact False.elim h1
theorem zgn {op:CmpOp} {g:A→A→Mo A} (ho:OpOk X W (compareOp op) g) (ha:VE X W a fa) (hb:VE X W b fb) (hm:behindInMarks op b=false):VE X W (.Compare a [op] [b] pos) (vOp g fa fb):=by
 obtain ⟨r,o1,o2⟩:=ho
 obtain ⟨t,p1,s1⟩:=ha
 obtain ⟨u,p2,s2⟩:=hb
 exact ⟨_,zlt o1 p1 p2 hm,ze0 o2 s1 s2⟩
theorem zck {op:CmpOp} {g:A→A→Mo A} (ho:OpOk X W (compareOp op) g) (ha:VE X W a fa) (hb:VE X W b fb) (hm:behindInMarks op b=false):VT X W (.Compare a [op] [b] pos) (zbE (vOp g fa fb)):=by
 obtain ⟨r,o1,o2⟩:=ho
 obtain ⟨t,p1,s1⟩:=ha
 obtain ⟨u,p2,s2⟩:=hb
 exact ⟨_,zkx o1 p1 p2 hm,zgD (ze0 o2 s1 s2)⟩
theorem zdG (h:VE X W e fa) (he:∀ whole,isTrue e X.env whole=(do let v ← whole;standAt e.pos;holding [v] (truthy v)):=by intro _;rfl):VT X W e (zbE fa):=by
 obtain ⟨t,p,s⟩:=h
 exact ⟨_,zmC p he,zgD s⟩
@[simp] def vOrT (f g:Ev→Mo Bool):Ev→Mo Bool:=fun ρ=>mb (f ρ) fun c=>if c then ret true else g ρ
@[simp] def zhe (f:Ev→Mo Bool):Ev→Mo Bool:=fun ρ=>mb (f ρ) fun c=>ret (!c)
variable {rest:List Expr}
theorem zgC (h:VT X W a ta):VW X W (.BoolOp .Or [a] pos) ta:=let ⟨t,p,s⟩:=h; ⟨t,pw_or1 p,s⟩
theorem zh5 (h1:VT X W a ta) (h2:VW X W (.BoolOp .Or (b :: rest) pos) tb):VW X W (.BoolOp .Or (a :: b :: rest) pos) (vOrT ta tb):=by
 obtain ⟨t,p1,s1⟩:=h1
 obtain ⟨u,p2,s2⟩:=h2
 refine ⟨_,pw_or p1 p2,fun G ι Ω H σ ρ Q w r h=>?_⟩
 refine s1 G ι Ω H σ ρ _ w r (Post.mb h fun c Ω1 c' H1 G1 ι1 x1 w1 d1 h1=>?_)
 cases (show c'=c from d1)
 cases c with
 | false=>exact s2 G1 ι1 Ω1 H1 σ ρ Q w1 (r.ext x1) h1
 | true=>exact zaw w1 rfl h1
theorem VW.vt (h:VW X W e ta):VT X W e ta:=let ⟨t,p,s⟩:=h; ⟨t,p.pt,s⟩
theorem zfE (h:VT X W a ta):VT X W (.UnaryOp .Not a pos) (zhe ta):=by
 obtain ⟨t,p,s⟩:=h
 refine ⟨_,zmf p,fun G ι Ω H σ ρ Q w r h=>?_⟩
 refine s G ι Ω H σ ρ _ w r (Post.mb h fun c Ω1 c' H1 G1 ι1 x1 w1 d1 h1=>?_)
 cases (show c'=c from d1)
 exact zaw w1 rfl h1
@[simp] def vAnd (f g:Ev→Mo A):Ev→Mo A:=fun ρ=>mb (f ρ) fun x=>mb (zi1 x) fun c=>if c then g ρ else ret (.bl false)
@[simp] def vOr (f g:Ev→Mo A):Ev→Mo A:=fun ρ=>mb (f ρ) fun x=>mb (zi1 x) fun c=>if c then ret (.bl true) else g ρ
@[simp] def vNot (f:Ev→Mo A):Ev→Mo A:=fun ρ=>mb (f ρ) fun x=>mb (zi1 x) fun c=>ret (.bl (!c))
theorem zhs {op} (h:VE X W a fa):VE X W (.BoolOp op [a] pos) fa:=let ⟨t,p,s⟩:=h; ⟨t,zmy p,s⟩
theorem zgT (h1:VE X W a fa) (h2:VE X W (.BoolOp .And (b :: rest) pos) fb):VE X W (.BoolOp .And (a :: b :: rest) pos) (vAnd fa fb):=by
 obtain ⟨t,p1,s1⟩:=h1
 obtain ⟨u,p2,s2⟩:=h2
 refine ⟨_,zlP p1 p2,fun G ι Ω H σ ρ Q w r h=>?_⟩
 refine s1 G ι Ω H σ ρ _ w r (Post.mb h fun x Ω1 v H1 G1 ι1 x1 w1 d1 h1=>?_)
 cases x with
 | bl c =>
  simp only [Den] at d1
  refine ⟨c,d1,?_⟩
  cases c with
  | true=>exact s2 G1 ι1 Ω1 H1 σ ρ Q w1 (r.ext x1) h1
  | false=>exact zaw w1 (by simp only [Den]) h1
 | _=>exact False.elim h1
theorem znU (h1:VE X W a fa) (h2:VE X W (.BoolOp .Or (b :: rest) pos) fb):VE X W (.BoolOp .Or (a :: b :: rest) pos) (vOr fa fb):=by
 obtain ⟨t,p1,s1⟩:=h1
 obtain ⟨u,p2,s2⟩:=h2
 refine ⟨_,znx p1 p2,fun G ι Ω H σ ρ Q w r h=>?_⟩
 refine s1 G ι Ω H σ ρ _ w r (Post.mb h fun x Ω1 v H1 G1 ι1 x1 w1 d1 h1=>?_)
 cases x with
 | bl c =>
  simp only [Den] at d1
  refine ⟨c,d1,?_⟩
  cases c with
  | false=>exact s2 G1 ι1 Ω1 H1 σ ρ Q w1 (r.ext x1) h1
  | true=>exact zaw w1 (by simp only [Den]) h1
 | _=>exact False.elim h1
theorem zkb (h:VE X W a fa):VE X W (.UnaryOp .Not a pos) (vNot fa):=by
 obtain ⟨t,p,s⟩:=h
 refine ⟨_,zmI p,fun G ι Ω H σ ρ Q w r h=>?_⟩
 refine s G ι Ω H σ ρ _ w r (Post.mb h fun x Ω1 v H1 G1 ι1 x1 w1 d1 h1=>?_)
 cases x with
 | bl c =>
  simp only [Den] at d1
  exact ⟨c,d1,zaw w1 (by simp only [Den]) h1⟩
 | _=>exact False.elim h1
@[simp] def vIf (t:Ev→Mo Bool) (f g:Ev→Mo A):Ev→Mo A:=fun ρ=>mb (t ρ) fun c=>if c then f ρ else g ρ
theorem znY (hc:VT X W c ta) (h1:VE X W a fa) (h2:VE X W b fb):VE X W (.IfExp c a b pos) (vIf ta fa fb):=by
 obtain ⟨t0,p0,s0⟩:=hc
 obtain ⟨t,p1,s1⟩:=h1
 obtain ⟨u,p2,s2⟩:=h2
 refine ⟨_,zjd p0 p1 p2,fun G ι Ω H σ ρ Q w r h=>?_⟩
 refine s0 G ι Ω H σ ρ _ w r (Post.mb h fun c Ω1 c' H1 G1 ι1 x1 w1 d1 h1=>?_)
 cases (show c'=c from d1)
 cases c with
 | true=>exact s1 G1 ι1 Ω1 H1 σ ρ Q w1 (r.ext x1) h1
 | false=>exact s2 G1 ι1 Ω1 H1 σ ρ Q w1 (r.ext x1) h1
@[simp] def vNeg (f:Ev→Mo A):Ev→Mo A:=fun ρ=>mb (f ρ) fun x=>match x with
 | .int i=>ret (.int (-i))
 | _=>stuck
theorem zmo (h:VE X W a fa):VE X W (.UnaryOp .USub a pos) (vNeg fa):=by
 obtain ⟨t,p,s⟩:=h
 refine ⟨_,zn0 zl3 p,fun G ι Ω H σ ρ Q w r h=>?_⟩
 refine s G ι Ω H σ ρ _ w r (Post.mb h fun x Ω1 v H1 G1 ι1 x1 w1 d1 h1=>?_)
 cases x with
 | int c =>
  simp only [Den] at d1
  exact ⟨c,d1,zaw w1 (by simp only [Den]) h1⟩
 | _=>exact False.elim h1
end
end V2
namespace V2
open PySem PySem.Spec PyProof.Rows L2
inductive Out where
 | nx | bk | ct | ret (a:A) | exc (x:Exc)
abbrev OS:=Option (Out × Ev × Sto)
abbrev MS:=Ev→Sto→OS
def OutS (K:PySem.W.Frag) (W:WX) (G:Hp) (ι:List Addr) (D:Ends) (σ:L2.St) (H:Hp):Out→Prop
 | .nx=>D.nx σ H
 | .bk=>D.bk σ H
 | .ct=>D.ct σ H
 | .ret a=>∀ v,Den K G ι v a→D.rt v H
 | .exc x=>∀ cls dx,ExcR K G ι H x cls dx→W σ cls dx H
def zbi (K:PySem.W.Frag) (W:WX) (G:Hp) (ι:List Addr) (D:Ends):OS→Prop
 | some (o,ρ',Ω')=>∀ σ' H' G' ι',Ext G ι G' ι'→Wd K G' ι' Ω' H'→EnvR K G' ι' σ' ρ'→OutS K W G' ι' D σ' H' o
 | none=>False
@[simp] def sM {α:Type} (m:Mo α) (ρ:Ev) (k:α→Sto→OS):Sto→OS:=fun Ω=>match m Ω with
 | some (.ok a,Ω1)=>k a Ω1
 | some (.exc x,Ω1)=>some (.exc x,ρ,Ω1)
 | none=>none
section
variable {K:PySem.W.Frag} {W:WX} {G:Hp} {ι:List Addr} {Ω:Sto} {σ:L2.St} {ρ:Ev} {D:Ends}
theorem zbi.ext {G1:Hp} {ι1:List Addr} {r:OS} (h:zbi K W G ι D r) (e:Ext G ι G1 ι1):zbi K W G1 ι1 D r:=by
 match r,h with
 | some (o,ρ',Ω'),h=>exact fun σ' H' G' ι' x w d=>h σ' H' G' ι' (e.trans x) w d
theorem zbi.sM {α β:Type} {rel:Rl α β} {m:Mo α} {k:α→Sto→OS} {Q1:β→Hp→Prop} (h:zbi K W G ι D (V2.sM m ρ k Ω)) (r:EnvR K G ι σ ρ)
  (hk:∀ a Ω1 v H1 G1 ι1,Ext G ι G1 ι1→Wd K G1 ι1 Ω1 H1→rel G1 ι1 v a→zbi K W G1 ι1 D (k a Ω1)→Q1 v H1):Post K rel W G ι σ Q1 (m Ω):=by
 unfold V2.sM at h
 revert h
 generalize m Ω=q
 intro h
 match q,h with
 | some (.ok a,Ω1),h=>exact fun v H1 G1 ι1 x w d=>hk a Ω1 v H1 G1 ι1 x w d (zbi.ext h x)
 | some (.exc x,Ω1),h=>exact fun cls dx H' G' ι' e w d=>h σ H' G' ι' e w (r.ext e) cls dx d
end
def SimS (K:PySem.W.Frag) (W:WX) (t:TS) (f:MS):Prop:=∀ G ι Ω H σ ρ D,Wd K G ι Ω H→EnvR K G ι σ ρ→zbi K W G ι D (f ρ Ω)→t D σ H
def VS (X:Cx) (W:WX) (st:Stmt) (f:MS):Prop:=∃ t,PS X st t∧SimS X.K W t f
def VSs (X:Cx) (W:WX) (st:List Stmt) (f:MS):Prop:=∃ t,PSs X st t∧SimS X.K W t f
def SimG (K:PySem.W.Frag) (W:WX) (t:TG) (g:A→MS):Prop:=∀ G ι Ω H σ ρ v a D,Wd K G ι Ω H→EnvR K G ι σ ρ→Den K G ι v a→zbi K W G ι D (g a ρ Ω)→t v σ H D.nx
def znG (K:PySem.W.Frag) (W:WX) (t:TGs) (g:List A→MS):Prop:=∀ G ι Ω H σ ρ vs as D,Wd K G ι Ω H→EnvR K G ι σ ρ→DenL K G ι vs as→zbi K W G ι D (g as ρ Ω)→t vs σ H D.nx
def VG (X:Cx) (W:WX) (tg:Expr) (g:A→MS):Prop:=∃ t,PG X tg t∧SimG X.K W t g
def VGs (X:Cx) (W:WX) (tgs:List Expr) (g:List A→MS):Prop:=∃ t,PGs X tgs t∧znG X.K W t g
@[simp] def sNx:MS:=fun ρ Ω=>some (.nx,ρ,Ω)
@[simp] def sSeq (f g:MS):MS:=fun ρ Ω=>match f ρ Ω with
 | some (.nx,ρ1,Ω1)=>g ρ1 Ω1
 | r=>r
section
variable {X:Cx} {W:WX} {st:Stmt} {rest:List Stmt} {f g:MS} {e:Expr} {fe:Ev→Mo A} {pos:Pos}
theorem zf1 {K:PySem.W.Frag} {G H:Hp} {ι:List Addr} {Ω:Sto} {σ:L2.St} {ρ:Ev} {D:Ends} (w:Wd K G ι Ω H) (r:EnvR K G ι σ ρ) (h:zbi K W G ι D (some (.nx,ρ,Ω))):D.nx σ H:=h σ H G ι (Ext.refl _ _) w r
theorem zbI:VSs X W [] sNx:=⟨_,zkp,fun _ _ _ _ _ _ _ w r h=>zf1 w r h⟩
theorem zkg {K:PySem.W.Frag} {t u:TS} (h1:SimS K W t f) (h2:SimS K W u g):SimS K W (tSeq t u) (sSeq f g):=by
 intro G ι Ω H σ ρ D w r h
 refine h1 G ι Ω H σ ρ _ w r ?_
 unfold sSeq at h
 revert h
 generalize f ρ Ω=q
 intro h
 match q,h with
 | some (.nx,ρ1,Ω1),h=>exact fun σ' H' G' ι' x w' r'=>h2 G' ι' Ω1 H' σ' ρ1 D w' r' (zbi.ext h x)
 | some (.bk,ρ1,Ω1),h=>exact h
 | some (.ct,ρ1,Ω1),h=>exact h
 | some (.ret a,ρ1,Ω1),h=>exact h
 | some (.exc a,ρ1,Ω1),h=>exact h
theorem zaf (h1:VS X W st f) (h2:VSs X W rest g):VSs X W (st :: rest) (sSeq f g):=by
 obtain ⟨t,p1,s1⟩:=h1
 obtain ⟨u,p2,s2⟩:=h2
 exact ⟨_,ziT p1 p2,zkg s1 s2⟩
theorem zaq (h1:VS X W st f):VSs X W [st] f:=let ⟨t,p,s⟩:=h1; ⟨t,zkH p,s⟩
@[simp] def sExp (fe:Ev→Mo A):MS:=fun ρ=>sM (fe ρ) ρ fun _ Ω=>some (.nx,ρ,Ω)
theorem zew (h:VE X W e fe) (hs:swapsWith e none pos.line X.env=pure false:=by rfl):VS X W (.Expr e pos) (sExp fe):=by
 obtain ⟨t,p,s⟩:=h
 refine ⟨_,zla p hs,fun G ι Ω H σ ρ D w r h=>?_⟩
 exact s G ι Ω H σ ρ _ w r (zbi.sM h r fun a Ω1 v H1 G1 ι1 x1 w1 d1 h1=>zf1 w1 (r.ext x1) h1)
@[simp] def sRet (fe:Ev→Mo A):MS:=fun ρ=>sM (fe ρ) ρ fun a Ω=>some (.ret a,ρ,Ω)
theorem zaQ (h:VE X W e fe):VS X W (.Return (some e) pos) (sRet fe):=by
 obtain ⟨t,p,s⟩:=h
 refine ⟨_,zm6 p,fun G ι Ω H σ ρ D w r h=>?_⟩
 exact s G ι Ω H σ ρ _ w r (zbi.sM h r fun a Ω1 v H1 G1 ι1 x1 w1 d1 h1=>h1 σ H1 G1 ι1 (Ext.refl _ _) w1 (r.ext x1) v d1)
@[simp] def sIf (c:Ev→Mo Bool) (f g:MS):MS:=fun ρ=>sM (c ρ) ρ fun b Ω=>if b then f ρ Ω else g ρ Ω
theorem zdY {c:Expr} {a b:List Stmt} {fc:Ev→Mo Bool} (hc:VT X W c fc) (h1:VSs X W a f) (h2:VSs X W b g):VS X W (.If c a b pos) (sIf fc f g):=by
 obtain ⟨t0,p0,s0⟩:=hc
 obtain ⟨t,p1,s1⟩:=h1
 obtain ⟨u,p2,s2⟩:=h2
 refine ⟨_,znT p0 p1 p2,fun G ι Ω H σ ρ D w r h=>?_⟩
 refine s0 G ι Ω H σ ρ _ w r (zbi.sM h r fun c Ω1 c' H1 G1 ι1 x1 w1 d1 h1=>?_)
 cases (show c'=c from d1)
 cases c with
 | true=>exact s1 G1 ι1 Ω1 H1 σ ρ D w1 (r.ext x1) h1
 | false=>exact s2 G1 ι1 Ω1 H1 σ ρ D w1 (r.ext x1) h1
@[simp] def gN (i:Nat):A→MS:=fun a ρ Ω=>some (.nx,ρ.set i (some a),Ω)
theorem za9 {i:Nat} {x:Str} (hN:X.N.Nodup) (hi:X.N[i]? = some x) (hx:Loc X.env.scope x) (hf:X.fn x=true∨X.env.scope.names.lookup x=some .local:=by first | exact .inl rfl | exact .inr rfl | assumption):VG X W (.Name x pos) (gN i) :=
 ⟨_,zkO hN hi hx hf,fun _ _ _ _ _ _ _ _ _ w r d h=>zf1 w (r.set i d) h⟩
@[simp] def zix:List A→MS:=fun as ρ Ω=>match as with
 | []=>some (.nx,ρ,Ω)
 | _=>none
@[simp] def zcK (g:A→MS) (gs:List A→MS):List A→MS:=fun as=>match as with
 | a :: r=>sSeq (g a) (gs r)
 | []=>fun _ _=>none
theorem zia:VGs X W [] zix:=⟨_,zkR,fun G ι Ω H σ ρ vs as D w r d h=>by
 cases as with
 | nil=>rw [za2] at d;exact ⟨d,zf1 w r h⟩
 | cons=>exact False.elim h⟩
theorem zdB {es:List Expr} {g:A→MS} {gs:List A→MS} (h1:VG X W e g) (h2:VGs X W es gs)
  (hs:(assignEach (e :: es) X.env).map (·.2)=assign e X.env :: (assignEach es X.env).map (·.2):=by rfl):VGs X W (e :: es) (zcK g gs):=by
 obtain ⟨t,p1,s1⟩:=h1
 obtain ⟨u,p2,s2⟩:=h2
 refine ⟨_,zjH p1 p2 hs,fun G ι Ω H σ ρ vs as D w r d h=>?_⟩
 cases as with
 | nil=>exact False.elim h
 | cons a as =>
  obtain ⟨x,xs,rfl,d1,d2⟩:=d.zbu
  refine ⟨x,xs,rfl,s1 G ι Ω H σ ρ x a { D with nx:=fun σ' H'=>u xs σ' H' D.nx } w r d1 ?_⟩
  simp only [zcK,sSeq] at h
  revert h
  generalize g a ρ Ω=q
  intro h
  match q,h with
  | some (.nx,ρ1,Ω1),h=>exact fun σ' H' G' ι' x w' r'=>s2 G' ι' Ω1 H' σ' ρ1 xs as D w' r' (d2.ext x) (zbi.ext h x)
  | some (.bk,ρ1,Ω1),h=>exact h
  | some (.ct,ρ1,Ω1),h=>exact h
  | some (.ret a,ρ1,Ω1),h=>exact h
  | some (.exc a,ρ1,Ω1),h=>exact h
@[simp] def zhc (n:Nat) (gs:List A→MS):A→MS:=fun a ρ Ω=>match a with
 | .tup ds=>if ds.length=n then gs ds ρ Ω else none
 | _=>none
theorem zjV {es:List Expr} {k:Nat} {n:Nat} {gs:List A→MS} (hc:X.calm=true) (h:VGs X W es gs)
  (hn:(assignEach es X.env).length=n:=by rfl) (hst:(assignEach es X.env).findIdx? (·.1)=none:=by rfl):VG X W (.Tuple es k pos) (zhc n gs):=by
 obtain ⟨t,p,s⟩:=h
 refine ⟨_,zmk hc p hn hst,fun G ι Ω H σ ρ v a D w r d h=>?_⟩
 unfold zhc at h
 cases a with
 | tup ds =>
  simp only at h
  by_cases hl:ds.length=n
  ·rw [if_pos hl] at h
   simp only [Den] at d
   obtain ⟨p,xs,rfl,h2,h3⟩:=d
   exact ⟨p,xs,rfl,SqT.of (w.sub _ _ h2),by rw [h3.length];exact hl,s G ι Ω H σ ρ xs ds D w r h3 h⟩
  ·rw [if_neg hl] at h;exact False.elim h
 | _=>exact False.elim h
@[simp] def sAsg (fe:Ev→Mo A) (g:A→MS):MS:=fun ρ=>sM (fe ρ) ρ fun a Ω=>g a ρ Ω
theorem zk5 {K:PySem.W.Frag} {te:TE} {t:TG} {g:A→MS} (h1:Sim K (Den K) W te fe) (h2:SimG K W t g):SimS K W (tAsg te t) (sAsg fe g):=by
 intro G ι Ω H σ ρ D w r h
 exact h1 G ι Ω H σ ρ _ w r (zbi.sM h r fun a Ω1 v H1 G1 ι1 x1 w1 d1 h1=>h2 G1 ι1 Ω1 H1 σ ρ v a D w1 (r.ext x1) d1 h1)
theorem zaL {i:Nat} {x:Str} {pos':Pos} (hN:X.N.Nodup) (hi:X.N[i]? = some x) (hx:Loc X.env.scope x) (he:VE X W e fe) (hs:swapsWith e (some (.Name x pos')) pos.line X.env=pure false:=by rfl) (hf:X.fn x=true∨X.env.scope.names.lookup x=some .local:=by first | exact .inl rfl | exact .inr rfl | assumption) :
  VS X W (.Assign [.Name x pos'] e pos) (sAsg fe (gN i)):=by
 obtain ⟨t,p1,s1⟩:=he
 exact ⟨_,zmw hN hi hx p1 hs hf,zk5 s1 fun _ _ _ _ _ _ _ _ _ w r d h=>zf1 w (r.set i d) h⟩
structure Src where
 ds:List A
 ok:Sto→Prop
structure ItV (K:PySem.W.Frag) (G:Hp) (ι:List Addr) (J:It) (S:Src):Prop where
 go:∀ G' ι' Ω' H',Ext G ι G' ι'→Wd K G' ι' Ω' H'→S.ok Ω'→∀ i,i < S.ds.length→J.go i H'
 stop:∀ G' ι' Ω' H',Ext G ι G' ι'→Wd K G' ι' Ω' H'→S.ok Ω'→∀ i,S.ds.length ≤ i→J.stop i H'
 yld:∀ G' ι' Ω' H',Ext G ι G' ι'→Wd K G' ι' Ω' H'→S.ok Ω'→∀ i x H2 d,S.ds[i]? = some d→J.yld i H' x H2→∃ G2,Ext G' ι' G2 ι'∧Wd K G2 ι' Ω' H2∧Den K G2 ι' x d
def relI (K:PySem.W.Frag):Rl Src It:=fun G ι J S=>ItV K G ι J S
theorem ItV.ext {K:PySem.W.Frag} {G G1:Hp} {ι ι1:List Addr} {J:It} {S:Src} (h:ItV K G ι J S) (e:Ext G ι G1 ι1):ItV K G1 ι1 J S :=
 ⟨fun G' ι' Ω' H' x=>h.go G' ι' Ω' H' (e.trans x),fun G' ι' Ω' H' x=>h.stop G' ι' Ω' H' (e.trans x),fun G' ι' Ω' H' x=>h.yld G' ι' Ω' H' (e.trans x)⟩
def VI (X:Cx) (W:WX) (tg iter:Expr) (f:Ev→Mo Src):Prop:=∃ t,PI X tg iter t∧Sim X.K (relI X.K) W t f
open Classical in
noncomputable def fFor (ok:Sto→Prop) (g:A→MS) (b:MS):List A→MS
 | [],ρ,Ω=>if ok Ω then some (.nx,ρ,Ω) else none
 | x :: xs,ρ,Ω=>if ok Ω then (match g x ρ Ω with
  | some (.nx,ρ0,Ω0)=>(match b ρ0 Ω0 with
   | some (.nx,ρ1,Ω1)=>fFor ok g b xs ρ1 Ω1
   | some (.ct,ρ1,Ω1)=>fFor ok g b xs ρ1 Ω1
   | some (.bk,ρ1,Ω1)=>some (.nx,ρ1,Ω1)
   | r=>r)
  | some (.exc e,ρ0,Ω0)=>some (.exc e,ρ0,Ω0)
  | _=>none) else none
@[simp] noncomputable def sFor (fi:Ev→Mo Src) (g:A→MS) (b:MS):MS:=fun ρ=>sM (fi ρ) ρ fun S Ω=>fFor S.ok g b S.ds ρ Ω
theorem zkF {K:PySem.W.Frag} {G:Hp} {ι:List Addr} {D:Ends} {ok:Sto→Prop} {g:A→MS} {b:MS} {xs:List A} {ρ:Ev} {Ω:Sto} (h:zbi K W G ι D (fFor ok g b xs ρ Ω)):ok Ω:=by
 cases xs with
 | nil =>
  unfold fFor at h
  by_cases hp:ok Ω
  ·exact hp
  ·rw [if_neg hp] at h;exact False.elim h
 | cons =>
  unfold fFor at h
  by_cases hp:ok Ω
  ·exact hp
  ·rw [if_neg hp] at h;exact False.elim h
theorem zkY {K:PySem.W.Frag} {wi:TI} {tg:TG} {tb:TS} {fi:Ev→Mo Src} {g:A→MS} {b:MS} (hi:Sim K (relI K) W wi fi) (hg:SimG K W tg g) (hb:SimS K W tb b):SimS K W (tFor wi tg tb) (sFor fi g b):=by
 intro G ι Ω H σ ρ D w r h
 refine hi G ι Ω H σ ρ _ w r (zbi.sM h r fun S Ω1 J H1 G1 ι1 x1 w1 j1 h1=>?_)
 refine ⟨fun i m σ' H'=>m=S.ds.length - i∧i ≤ S.ds.length∧∃ G' ι' Ω' ρ',Ext G1 ι1 G' ι'∧Wd K G' ι' Ω' H'∧EnvR K G' ι' σ' ρ'∧zbi K W G' ι' D (fFor S.ok g b (S.ds.drop i) ρ' Ω'),
  ⟨_,rfl,Nat.zero_le _,G1,ι1,Ω1,ρ,Ext.refl _ _,w1,r.ext x1,by simpa using h1⟩,?_⟩
 rintro i m σ' H' ⟨rfl,hil,G',ι',Ω',ρ',e',w',r',h'⟩
 have hok:=zkF h'
 by_cases hlt:i < S.ds.length
 ·right
  refine ⟨j1.go G' ι' Ω' H' e' w' hok i hlt,fun σ2 H2=>∃ G2 ι2 Ω2 ρ2,Ext G1 ι1 G2 ι2∧Wd K G2 ι2 Ω2 H2∧EnvR K G2 ι2 σ2 ρ2∧zbi K W G2 ι2 D (fFor S.ok g b (S.ds.drop (i + 1)) ρ2 Ω2),fun σ2 H2 n=>?_,fun x H2 y=>?_⟩
  ·exact ⟨S.ds.length - (i + 1),by omega,rfl,hlt,n⟩
  ·obtain ⟨G2,e2,w2,d2⟩:=j1.yld G' ι' Ω' H' e' w' hok i x H2 S.ds[i] (List.getElem?_eq_getElem hlt) y
   rw [List.drop_eq_getElem_cons hlt] at h'
   unfold fFor at h'
   rw [if_pos hok] at h'
   refine hg G2 ι' Ω' H2 σ' ρ' x S.ds[i] { D with nx:=fun σ3 H3=>tb _ σ3 H3 } w2 (r'.ext e2) d2 ?_
   revert h'
   generalize g S.ds[i] ρ' Ω'=q
   intro h'
   match q,h' with
   | some (.nx,ρ3,Ω3),h' =>
    intro σ3 H3 G3 ι3 x3 w3 r3
    refine hb G3 ι3 Ω3 H3 σ3 ρ3 _ w3 r3 ?_
    simp only at h'
    revert h'
    generalize b ρ3 Ω3=q2
    intro h'
    match q2,h' with
    | some (.nx,ρ4,Ω4),h'=>exact fun σ4 H4 G4 ι4 x4 w4 r4=>⟨G4,ι4,Ω4,ρ4,(e'.trans (e2.trans x3)).trans x4,w4,r4,zbi.ext h' ((e2.trans x3).trans x4)⟩
    | some (.ct,ρ4,Ω4),h'=>exact fun σ4 H4 G4 ι4 x4 w4 r4=>⟨G4,ι4,Ω4,ρ4,(e'.trans (e2.trans x3)).trans x4,w4,r4,zbi.ext h' ((e2.trans x3).trans x4)⟩
    | some (.bk,ρ4,Ω4),h'=>exact fun σ4 H4 G4 ι4 x4 w4 r4=>h' σ4 H4 G4 ι4 ((e2.trans x3).trans x4) w4 r4
    | some (.ret a,ρ4,Ω4),h'=>exact fun σ4 H4 G4 ι4 x4 w4 r4=>h' σ4 H4 G4 ι4 ((e2.trans x3).trans x4) w4 r4
    | some (.exc a,ρ4,Ω4),h'=>exact fun σ4 H4 G4 ι4 x4 w4 r4=>h' σ4 H4 G4 ι4 ((e2.trans x3).trans x4) w4 r4
   | some (.exc a,ρ3,Ω3),h'=>exact fun σ4 H4 G4 ι4 x4 w4 r4=>h' σ4 H4 G4 ι4 (e2.trans x4) w4 r4
 ·have hie:i=S.ds.length:=by omega
  subst hie
  left
  rw [List.drop_length] at h'
  unfold fFor at h'
  rw [if_pos hok] at h'
  exact ⟨j1.stop G' ι' Ω' H' e' w' hok _ (Nat.le_refl _),zf1 w' r' h'⟩
theorem zgW {tg iter:Expr} {body:List Stmt} {fi:Ev→Mo Src} {g:A→MS} {b:MS} (hp:PassesOwn (model X.prog X.w) X.A X.env X.xe) (hc:X.calm=true) (hi:VI X W tg iter fi) (hg:VG X W tg g) (hb:VSs X W body b)
  (hs:∀ x,foldedSetIterable iter X.env x=pure x:=by intro _;rfl):VS X W (.For tg iter body [] pos) (sFor fi g b):=by
 obtain ⟨t1,p1,s1⟩:=hi
 obtain ⟨t2,p2,s2⟩:=hg
 obtain ⟨t3,p3,s3⟩:=hb
 exact ⟨_,zl6 hp hc p1 p2 p3 hs,zkY s1 s2 s3⟩
def zbx (c:Ev→Mo Bool) (b:MS):Nat→MS
 | 0,_,_=>none
 | n + 1,ρ,Ω=>sM (c ρ) ρ (fun k Ω1=>if k then (match b ρ Ω1 with
   | some (.nx,ρ1,Ω2)=>zbx c b n ρ1 Ω2
   | some (.ct,ρ1,Ω2)=>zbx c b n ρ1 Ω2
   | some (.bk,ρ1,Ω2)=>some (.nx,ρ1,Ω2)
   | r=>r) else some (.nx,ρ,Ω1)) Ω
theorem zhA {K:PySem.W.Frag} {tc:TT} {tb:TS} {c:Ev→Mo Bool} {b:MS} (n:Ev→Sto→Nat) (hc:Sim K relB W tc c) (hb:SimS K W tb b):SimS K W (zj4 tc tb) (fun ρ Ω=>zbx c b (n ρ Ω) ρ Ω):=by
 intro G ι Ω H σ ρ D w r h
 refine ⟨fun m σ' H'=>∃ G' ι' Ω' ρ',Ext G ι G' ι'∧Wd K G' ι' Ω' H'∧EnvR K G' ι' σ' ρ'∧zbi K W G' ι' D (zbx c b m ρ' Ω'),⟨_,G,ι,Ω,ρ,Ext.refl _ _,w,r,h⟩,?_⟩
 rintro m σ' H' ⟨G',ι',Ω',ρ',e',w',r',h'⟩
 cases m with
 | zero=>exact False.elim h'
 | succ m =>
  unfold zbx at h'
  refine hc G' ι' Ω' H' σ' ρ' _ w' r' (zbi.sM h' r' fun k Ω1 k' H1 G1 ι1 x1 w1 d1 h1=>?_)
  cases (show k'=k from d1)
  cases k with
  | false=>exact zf1 w1 (r'.ext x1) h1
  | true =>
   refine ⟨fun σ2 H2=>∃ G2 ι2 Ω2 ρ2,Ext G ι G2 ι2∧Wd K G2 ι2 Ω2 H2∧EnvR K G2 ι2 σ2 ρ2∧zbi K W G2 ι2 D (zbx c b m ρ2 Ω2),fun σ2 H2 q=>⟨m,Nat.lt_succ_self _,q⟩,?_⟩
   refine hb G1 ι1 Ω1 H1 σ' ρ' _ w1 (r'.ext x1) ?_
   simp only [if_true] at h1
   revert h1
   generalize b ρ' Ω1=q
   intro h1
   match q,h1 with
   | some (.nx,ρ4,Ω4),h1=>exact fun σ4 H4 G4 ι4 x4 w4 r4=>⟨G4,ι4,Ω4,ρ4,(e'.trans x1).trans x4,w4,r4,zbi.ext h1 x4⟩
   | some (.ct,ρ4,Ω4),h1=>exact fun σ4 H4 G4 ι4 x4 w4 r4=>⟨G4,ι4,Ω4,ρ4,(e'.trans x1).trans x4,w4,r4,zbi.ext h1 x4⟩
   | some (.bk,ρ4,Ω4),h1=>exact fun σ4 H4 G4 ι4 x4 w4 r4=>h1 σ4 H4 G4 ι4 x4 w4 r4
   | some (.ret a,ρ4,Ω4),h1=>exact fun σ4 H4 G4 ι4 x4 w4 r4=>h1 σ4 H4 G4 ι4 x4 w4 r4
   | some (.exc a,ρ4,Ω4),h1=>exact fun σ4 H4 G4 ι4 x4 w4 r4=>h1 σ4 H4 G4 ι4 x4 w4 r4
theorem zgG {ce:Expr} {body:List Stmt} {c:Ev→Mo Bool} {b:MS} (n:Ev→Sto→Nat) (hp:PassesOwn (model X.prog X.w) X.A X.env X.xe) (hc:VT X W ce c) (hb:VSs X W body b):VS X W (.While ce body [] pos) (fun ρ Ω=>zbx c b (n ρ Ω) ρ Ω):=by
 obtain ⟨t1,p1,s1⟩:=hc
 obtain ⟨t2,p2,s2⟩:=hb
 exact ⟨_,zju hp p1 p2,zhA n s1 s2⟩
@[simp] def srcOf (a:A) (ds:List A):Src:=⟨ds,fun Ω=>zaI Ω a=some ds⟩
theorem ze2 {Ω:Sto} {a:A} {ds:List A} (h:zaj Ω a=some ds):zaI Ω a=some ds:=by
 cases a with
 | tup es=>simp [zaj] at h
 | _=>exact h
theorem za0 {Ω:Sto} {a:A} {ds:List A} (h:zaI Ω a=some ds) (ha:∀ es,a ≠ .tup es):zaj Ω a=some ds:=by
 cases a with
 | tup es=>exact absurd rfl (ha es)
 | _=>exact h
theorem zmF {tg l:Expr} {tl:TE} (hl:PE X l tl):PI X tg l (fun σ H R=>tl σ H fun x H1=>∃ a,x = .ref a∧(((∃ xs,SqL X.K H1 a xs)∧R (Itl X.K a) H1)∨((∃ xs,SqT X.K H1 a xs)∧R (Itt X.K a) H1))):=by
 intro pins s σ H R I h
 refine thn (hl pins s σ H _ I h) fun v s1 ⟨x,H1,I1,r1,q1⟩=>?_
 obtain ⟨a,e,q⟩:=q1
 subst e
 cases r1
 rcases q with ⟨⟨xs,hq⟩,q⟩ | ⟨⟨xs,hq⟩,q⟩
 ·obtain ⟨its,rv,p,hz⟩:=I1.list hq
  refine wpAny_pyIter_list p.isList ?_
  refine ⟨s1.heap.objs.size,[s1.heap.objs.size],_,_,H1,rfl,I1.kept (t':=s1.toks) fun b o e=>Heap.get?_push_of_some _ e,ziL a _,⟨_,Heap.get?_push_size _ rfl,rfl,rfl⟩,fun b hb=>?_,q⟩
  have e:b=s1.heap.objs.size:=by simpa using hb
  subst e
  exact I1.fpOk (Nat.le_refl _) (I1.hok.fresh (Nat.le_refl _))
 ·obtain ⟨its,rv,p,hz⟩:=I1.tuple hq
  refine wpAny_pyIter_tuple (show s1.heap.IsTuple a its.toArray from p) ?_
  refine ⟨s1.heap.objs.size,[s1.heap.objs.size],_,_,H1,rfl,I1.kept (t':=s1.toks) fun b o e=>Heap.get?_push_of_some _ e,zhp a _,⟨_,Heap.get?_push_size _ rfl,rfl,rfl⟩,fun b hb=>?_,q⟩
  have e:b=s1.heap.objs.size:=by simpa using hb
  subst e
  exact I1.fpOk (Nat.le_refl _) (I1.hok.fresh (Nat.le_refl _))
@[simp] def vSeq (f:Ev→Mo A):Ev→Mo Src:=fun ρ=>mb (f ρ) fun a Ω=>match zaI Ω a with
 | some ds=>some (.ok (srcOf a ds),Ω)
 | none=>none
theorem zlp {K:PySem.W.Frag} {G:Hp} {ι:List Addr} {p:Addr} {a:A} {ds:List A} (d:Den K G ι (.ref p) a) (ha:∀ es,a ≠ .tup es):ItV K G ι (Itl K p) (srcOf a ds):=by
 have key:∀ G' ι' Ω' H',Ext G ι G' ι'→Wd K G' ι' Ω' H'→zaI Ω' a=some ds→∃ xs,SqL K H' p xs∧DenL K G' ι' xs ds:=fun G' ι' Ω' H' e w h=>by
  obtain ⟨q,xs,h1,h2,h3⟩:=zaF w (d.ext e) (za0 h ha)
  cases h1
  exact ⟨xs,h2,h3⟩
 refine ⟨fun G' ι' Ω' H' e w h i hi=>?_,fun G' ι' Ω' H' e w h i hi=>?_,fun G' ι' Ω' H' e w h i x H2 y hy hd=>?_⟩
 ·obtain ⟨xs,h2,h3⟩:=key G' ι' Ω' H' e w h
  have hl:i < xs.length:=by rw [h3.length];exact hi
  exact ⟨xs,xs[i],h2,List.getElem?_eq_getElem hl⟩
 ·obtain ⟨xs,h2,h3⟩:=key G' ι' Ω' H' e w h
  exact ⟨xs,h2,by rw [h3.length];exact hi⟩
 ·obtain ⟨xs,h2,h3⟩:=key G' ι' Ω' H' e w h
  obtain ⟨e1,e2⟩:=hd
  subst e1
  obtain ⟨z,q1,q2⟩:=h3.get hy
  rw [e2 xs h2] at q1
  cases q1
  exact ⟨G',Ext.refl _ _,w,q2⟩
theorem zkE {K:PySem.W.Frag} {G:Hp} {ι:List Addr} {p:Addr} {ds es:List A} (d:Den K G ι (.ref p) (.tup es)):ItV K G ι (Itt K p) (srcOf (.tup es) ds):=by
 have key:∀ G' ι' Ω' H',Ext G ι G' ι'→Wd K G' ι' Ω' H'→zaI Ω' (.tup es)=some ds→∃ xs,SqT K H' p xs∧DenL K G' ι' xs ds:=fun G' ι' Ω' H' e w h=>by
  simp only [zaI,Option.some.injEq] at h
  subst h
  have d':=d.ext e
  simp only [Den] at d'
  obtain ⟨q,xs,h1,h2,h3⟩:=d'
  cases h1
  exact ⟨xs,SqT.of (w.sub _ _ h2),h3⟩
 refine ⟨fun G' ι' Ω' H' e w h i hi=>?_,fun G' ι' Ω' H' e w h i hi=>?_,fun G' ι' Ω' H' e w h i x H2 y hy hd=>?_⟩
 ·obtain ⟨xs,h2,h3⟩:=key G' ι' Ω' H' e w h
  have hl:i < xs.length:=by rw [h3.length];exact hi
  exact ⟨xs,xs[i],h2,List.getElem?_eq_getElem hl⟩
 ·obtain ⟨xs,h2,h3⟩:=key G' ι' Ω' H' e w h
  exact ⟨xs,h2,by rw [h3.length];exact hi⟩
 ·obtain ⟨xs,h2,h3⟩:=key G' ι' Ω' H' e w h
  obtain ⟨e1,e2⟩:=hd
  subst e1
  obtain ⟨z,q1,q2⟩:=h3.get hy
  rw [e2 xs h2] at q1
  cases q1
  exact ⟨G',Ext.refl _ _,w,q2⟩
theorem zd9 {tg l:Expr} {fe:Ev→Mo A} (h:VE X W l fe):VI X W tg l (vSeq fe):=by
 obtain ⟨t,p,s⟩:=h
 refine ⟨_,zmF p,fun G ι Ω H σ ρ R w r h=>?_⟩
 refine s G ι Ω H σ ρ _ w r (Post.mb h fun a Ω1 v H1 G1 ι1 x1 w1 d1 h1=>?_)
 cases e:zaI Ω1 a with
 | none=>simp only [e] at h1;exact False.elim h1
 | some ds =>
  simp only [e] at h1
  obtain ⟨q,xs,h2,h3,h4⟩:=zc7 w1 d1 e
  subst h2
  refine ⟨q,rfl,?_⟩
  cases a with
  | tup es =>
   right
   simp only [Den] at d1
   obtain ⟨q',xs',e1,e2,e3⟩:=id d1
   cases e1
   exact ⟨⟨_,SqT.of (w1.sub _ _ e2)⟩,h1 _ H1 G1 ι1 (Ext.refl _ _) w1 (zkE (by simpa only [Den] using d1))⟩
  | _ =>
   left
   obtain ⟨q',xs',e1,e2,e3⟩:=zaF w1 d1 (za0 e (by intro _ z;cases z))
   cases e1
   exact ⟨⟨_,e2⟩,h1 _ H1 G1 ι1 (Ext.refl _ _) w1 (zlp d1 (by intro _ z;cases z))⟩
@[simp] def zcj (lo:Int) (n:Nat):Src:=⟨(List.range n).map fun (i:Nat)=>A.int (lo + (i:Int)),fun _=>True⟩
def za8 (i:Int):Prop:=-(2 ^ 62) ≤ i∧i < 2 ^ 62
instance (i:Int):Decidable (za8 i):=by unfold za8;infer_instance
theorem ziv {K:PySem.W.Frag} {G:Hp} {ι:List Addr} {lo:Int} {n:Nat}:ItV K G ι (Itr lo n) (zcj lo n):=by
 refine ⟨fun _ _ _ _ _ _ _ i hi=>show i < n by simpa [zcj] using hi,fun _ _ _ _ _ _ _ i hi=>show n ≤ i by simpa [zcj] using hi,fun G' ι' Ω' H' e w h i x H2 y hy hd=>?_⟩
 obtain ⟨e1,e2⟩:=hd
 subst e1 e2
 refine ⟨G',Ext.refl _ _,w,?_⟩
 simp only [zcj,List.getElem?_map] at hy
 cases e:(List.range n)[i]? with
 | none=>rw [e] at hy;cases hy
 | some j =>
  rw [e] at hy
  cases hy
  have:=(List.getElem?_eq_some_iff.mp e).2
  simp at this
  subst this
  simp only [Den]
@[simp] def zem (f:Ev→Mo (List A)):Ev→Mo Src:=fun ρ=>mb (f ρ) fun as=>match as with
 | [.int j]=>mb (chk (za8 j)) fun _=>ret (zcj 0 j.toNat)
 | _=>stuck
@[simp] def zi9 (f:Ev→Mo (List A)):Ev→Mo Src:=fun ρ=>mb (f ρ) fun as=>match as with
 | [.int i, .int j]=>mb (chk (za8 i∧za8 j)) fun _=>ret (zcj i (j - i).toNat)
 | _=>stuck
theorem zdW {tg a:Expr} {fs:Ev→Mo (List A)} {p:Pos} (hg:Gl X "range") (hm:X.mg "range" = none) (ha:VA X W [a] fs) (hs:starEach [a] X.env=[(false,eval a X.env)]:=by rfl):VI X W tg (.Call (.Name "range" p) [a] [] pos) (zem fs):=by
 obtain ⟨t,p,s⟩:=ha
 refine ⟨_,zh9 hg hm p hs,fun G ι Ω H σ ρ R w r h=>?_⟩
 refine s G ι Ω H σ ρ _ w r (Post.mb h fun as Ω1 vs H1 G1 ι1 x1 w1 d1 h1=>?_)
 split at h1
 ·rename_i j
  obtain ⟨v,t,rfl,q1,q2⟩:=d1.zbu
  rw [za2] at q2;subst q2
  simp only [Den] at q1;subst q1
  obtain ⟨hc,h2⟩:=Post.chk h1
  exact ⟨j,rfl,hc.1,hc.2,zaw w1 ziv h2⟩
 ·exact False.elim h1
theorem zh6 {tg a b:Expr} {fs:Ev→Mo (List A)} {p:Pos} (hg:Gl X "range") (hm:X.mg "range" = none) (ha:VA X W [a,b] fs) (hs:starEach [a,b] X.env=[(false,eval a X.env),(false,eval b X.env)]:=by rfl) (hs2:starEach [b] X.env=[(false,eval b X.env)]:=by rfl):VI X W tg (.Call (.Name "range" p) [a,b] [] pos) (zi9 fs):=by
 obtain ⟨t,p,s⟩:=ha
 refine ⟨_,zhM hg hm p hs hs2,fun G ι Ω H σ ρ R w r h=>?_⟩
 refine s G ι Ω H σ ρ _ w r (Post.mb h fun as Ω1 vs H1 G1 ι1 x1 w1 d1 h1=>?_)
 split at h1
 ·rename_i i j
  obtain ⟨v,t,rfl,q1,q2⟩:=d1.zbu
  obtain ⟨v',t',rfl,q3,q4⟩:=q2.zbu
  rw [za2] at q4;subst q4
  simp only [Den] at q1 q3;subst q1 q3
  obtain ⟨hc,h2⟩:=Post.chk h1
  exact ⟨i,j,rfl,⟨hc.1.1,hc.1.2,hc.2.1,hc.2.2⟩,zaw w1 ziv h2⟩
 ·exact False.elim h1
end
end V2
namespace V2
open PySem PySem.Spec PyProof.Rows L2
section
variable {X:Cx} {W:WX} {e a b:Expr} {es:List Expr} {pos:Pos} {fa fb:Ev→Mo A} {fs:Ev→Mo (List A)}
@[simp] def gIx (a i:A):Mo A:=fun Ω=>match zaI Ω a,i with
 | some ds, .int n=>match atI ds n with
  | some d=>some (.ok d,Ω)
  | none=>none
 | _,_=>none
theorem zk7 {K:PySem.W.Frag} {G:Hp} {ι:List Addr} {xs:List V} {ds:List A} {n:Int} {d:A} (h:DenL K G ι xs ds) (e:atI ds n=some d):∃ x,atI xs n=some x∧Den K G ι x d:=by
 unfold atI at e ⊢
 rw [h.length]
 cases q:ixN ds.length n with
 | none=>rw [q] at e;cases e
 | some j=>rw [q] at e;exact h.get e
theorem zdl (ha:VE X W a fa) (hb:VE X W b fb) (hs:zgc b):VE X W (.Subscript a b pos) (vOp gIx fa fb):=by
 obtain ⟨t,p1,s1⟩:=ha
 obtain ⟨u,p2,s2⟩:=hb
 refine ⟨_,zlV zjM p1 p2 hs,ze0 ?_ s1 s2⟩
 intro G ι Ω H σ x y a i Q w d1 d2 h
 unfold gIx at h
 split at h
 ·rename_i ds n e1
  split at h
  ·rename_i d e
   simp only [Den] at d2
   have fin:∀ v,Den X.K G ι v d→Q v H:=fun v hv=>h v H G ι (Ext.refl _ _) w hv
   obtain ⟨p,xs,rfl,hq,hd⟩:=zc7 w d1 e1
   obtain ⟨v,q1,q2⟩:=zk7 hd e
   rcases hq with hq | hq
   ·exact .inl ⟨p,xs,n,v,rfl,d2,hq,q1,fin v q2⟩
   ·exact .inr (.inl ⟨p,xs,n,v,rfl,d2,hq,q1,fin v q2⟩)
  ·exact False.elim h
 ·exact False.elim h
def VO (X:Cx) (W:WX) (e:Option Expr) (f:Ev→Mo (Option Int)):Prop:=∃ t,PO X e t∧Sim X.K (fun _ _ o o'=>o=o') W t f
theorem zgf:VO X W none (fun _=>ret none):=⟨_,zkP,fun _ _ _ _ _ _ _ w _ q=>zaw w rfl q⟩
@[simp] def zjE (f:Ev→Mo A):Ev→Mo (Option Int):=fun ρ=>mb (f ρ) fun x=>match x with
 | .int i=>ret (some i)
 | _=>stuck
theorem zfP (h:VE X W e fa):VO X W (some e) (zjE fa):=by
 obtain ⟨t,p,s⟩:=h
 refine ⟨_,zlv p,fun G ι Ω H σ ρ Q w r h=>?_⟩
 refine s G ι Ω H σ ρ _ w r (Post.mb h fun x Ω1 v H1 G1 ι1 x1 w1 d1 h1=>?_)
 cases x with
 | int i=>simp only [Den] at d1;exact ⟨i,d1,zaw w1 rfl h1⟩
 | _=>exact False.elim h1
def cutA (ds:List A) (lo hi:Option Int):List A:=(ds.drop (HT.sIx ds.length 0 lo)).take (HT.sIx ds.length ds.length hi - HT.sIx ds.length 0 lo)
theorem zid {K:PySem.W.Frag} {G:Hp} {ι:List Addr} {xs:List V} {ds:List A} (h:DenL K G ι xs ds) (lo hi:Option Int):DenL K G ι (cutV xs lo hi) (cutA ds lo hi):=by
 unfold cutV cutA
 rw [h.length]
 exact (h.drop _).take _
@[simp] def gSl (c:Bool) (a:A) (lo hi:Option Int):Mo A:=fun Ω=>match a with
 | .tup ds=>if HT.sIx ds.length 0 lo=0∧HT.sIx ds.length ds.length hi=ds.length then none else some (.ok (.tup (cutA ds lo hi)),Ω)
 | a=>match zaj Ω a with
  | some ds=>mkL c (cutA ds lo hi) Ω
  | none=>none
@[simp] def vSl (c:Bool) (f:Ev→Mo A) (l h:Ev→Mo (Option Int)):Ev→Mo A:=fun ρ=>mb (f ρ) fun a=>mb (l ρ) fun lo=>mb (h ρ) fun hi=>gSl c a lo hi
theorem zej (c:Bool) {lo hi:Option Expr} {fl fh:Ev→Mo (Option Int)} {p2:Pos} (he:VE X W e fa) (hl:VO X W lo fl) (hh:VO X W hi fh):VE X W (.Subscript e (.Slice lo hi none p2) pos) (vSl c fa fl fh):=by
 obtain ⟨t,p1,s1⟩:=he
 obtain ⟨u,p2,s2⟩:=hl
 obtain ⟨u',p3,s3⟩:=hh
 refine ⟨_,zjy (zkv.or zmG) p1 p2 p3,fun G ι Ω H σ ρ Q w r h=>?_⟩
 refine s1 G ι Ω H σ ρ _ w r (Post.mb h fun x Ω1 v H1 G1 ι1 x1 w1 d1 h1=>?_)
 refine s2 G1 ι1 Ω1 H1 σ ρ _ w1 (r.ext x1) (Post.mb h1 fun o Ω2 o' H2 G2 ι2 x2 w2 d2 h2=>?_)
 cases (show o'=o from d2)
 refine s3 G2 ι2 Ω2 H2 σ ρ _ w2 ((r.ext x1).ext x2) (Post.mb h2 fun k Ω3 k' H3 G3 ι3 x3 w3 d3 h3=>?_)
 cases (show k'=k from d3)
 have d:=d1.ext (x2.trans x3)
 unfold gSl at h3
 cases x with
 | tup ds =>
  simp only at h3
  split at h3
  ·exact False.elim h3
  ·rename_i hn
   simp only [Den] at d
   obtain ⟨p,xs,rfl,q2,q3⟩:=d
   exact .inr ⟨p,xs,rfl,SqT.of (w3.sub _ _ q2),by rw [q3.length];exact hn,fun l hl=>zgV w3 hl (zid q3 o k) h3⟩
 | _ =>
  simp only at h3
  split at h3
  ·rename_i ds e
   obtain ⟨p,xs,rfl,q2,q3⟩:=zaF w3 d e
   exact .inl ⟨p,xs,rfl,q2,fun l hl=>zfv w3 hl (zid q3 o k) h3⟩
  ·exact False.elim h3
def zlZ (K:PySem.W.Frag) (W:WX) (r:List V→Hp→VK→Prop) (g:List A→Mo A):Prop :=
 ∀ G ι Ω H σ xs as Q,Wd K G ι Ω H→DenL K G ι xs as→Post K (Den K) W G ι σ Q (g as Ω)→r xs H Q
def zb2 (X:Cx) (W:WX) (f:Value) (g:List A→Mo A):Prop:=∃ r,zcm X f r∧zlZ X.K W r g
@[simp] def vCl (g:List A→Mo A) (f:Ev→Mo (List A)):Ev→Mo A:=fun ρ=>mb (f ρ) g
theorem zj1 {K:PySem.W.Frag} {r:List V→Hp→VK→Prop} {g:List A→Mo A} {t:TA} (hg:zlZ K W r g) (h:Sim K (DenL K) W t fs):Sim K (Den K) W (tCB r t) (vCl g fs):=by
 intro G ι Ω H σ ρ Q w q h2
 exact h G ι Ω H σ ρ _ w q (Post.mb h2 fun as Ω1 vs H1 G1 ι1 x1 w1 d1 h1=>hg G1 ι1 Ω1 H1 σ vs as Q w1 d1 h1)
theorem zaz {id:String} {x:Str} {g:List A→Mo A} {p:Pos} (hc:zb2 X W (.builtin id) g) (hg:Gl X x) (hm:X.mg x=none) (hv:bootBuiltins x=some (.builtin id)) (ha:VA X W (e :: es) fs) (hn:x ≠ "__name__":=by decide) (hdb:(x == ("__debug__" : Str))=false:=by decide)
  (he:starEach (e :: es) X.env=(false,eval e X.env) :: starEach es X.env:=by rfl) (hpl:(backTo pos (starEach es X.env)).any (·.1)=false:=by rfl):VE X W (.Call (.Name x p) (e :: es) [] pos) (vCl g fs):=by
 obtain ⟨r,c1,c2⟩:=hc
 obtain ⟨t,p1,s1⟩:=ha
 exact ⟨_,zi4 c1 hg hm hv p1 hn hdb he hpl,zj1 c2 s1⟩
theorem zbL {T:String} {x:Str} {g:List A→Mo A} {p:Pos} (hc:zb2 X W (.type T) g) (hg:Gl X x) (hm:X.mg x=none) (hv:bootBuiltins x=some (.type T)) (ha:VA X W (e :: es) fs) (hn:x ≠ "__name__":=by decide) (hdb:(x == ("__debug__" : Str))=false:=by decide)
  (he:starEach (e :: es) X.env=(false,eval e X.env) :: starEach es X.env:=by rfl) (hpl:(backTo pos (starEach es X.env)).any (·.1)=false:=by rfl):VE X W (.Call (.Name x p) (e :: es) [] pos) (vCl g fs):=by
 obtain ⟨r,c1,c2⟩:=hc
 obtain ⟨t,p1,s1⟩:=ha
 exact ⟨_,zhT c1 hg hm hv p1 hn hdb he hpl,zj1 c2 s1⟩
theorem den1 {K:PySem.W.Frag} {G:Hp} {ι:List Addr} {xs:List V} {d:A} (h:DenL K G ι xs [d]):∃ x,xs=[x]∧Den K G ι x d:=by
 obtain ⟨x,r,rfl,h1,h2⟩:=h.zbu
 rw [za2] at h2;subst h2
 exact ⟨x,rfl,h1⟩
theorem den2 {K:PySem.W.Frag} {G:Hp} {ι:List Addr} {xs:List V} {d d':A} (h:DenL K G ι xs [d,d']):∃ x y,xs=[x,y]∧Den K G ι x d∧Den K G ι y d':=by
 obtain ⟨x,r,rfl,h1,h2⟩:=h.zbu
 obtain ⟨y,rfl,h3⟩:=den1 h2
 exact ⟨x,y,rfl,h1,h3⟩
@[simp] def gLen (as:List A):Mo A:=fun Ω=>match as with
 | [a]=>(match zaI Ω a with
  | some ds=>some (.ok (.int ds.length),Ω)
  | none=>none)
 | _=>none
theorem zg8:zb2 X W (.builtin "len") gLen:=by
 refine ⟨_,ze4,?_⟩
 intro G ι Ω H σ xs as Q w d h
 unfold gLen at h
 split at h
 ·rename_i a
  split at h
  ·rename_i ds e
   obtain ⟨x,rfl,d1⟩:=den1 d
   obtain ⟨p,ys,rfl,h2,h3⟩:=zc7 w d1 e
   exact ⟨p,ys,rfl,h2,h _ H G ι (Ext.refl _ _) w (by simp only [Den,h3.length])⟩
  ·exact False.elim h
 ·exact False.elim h
@[simp] def zkf (as:List A):Mo A:=match as with
 | [.int i, .int j]=>ret (.int (max i j))
 | _=>stuck
@[simp] def zkw (as:List A):Mo A:=match as with
 | [.int i, .int j]=>ret (.int (min i j))
 | _=>stuck
theorem zmp (hc:X.calm=true):zb2 X W (.builtin "max") zkf:=by
 refine ⟨_,zhK hc,?_⟩
 intro G ι Ω H σ xs as Q w d h
 unfold zkf at h
 split at h
 ·rename_i i j
  obtain ⟨x,y,rfl,d1,d2⟩:=den2 d
  simp only [Den] at d1 d2;subst d1 d2
  refine ⟨i,j,rfl,?_⟩
  have e:(if j > i then j else i)=max i j:=by split <;> omega
  rw [e]
  exact zaw w (by simp only [Den]) h
 ·exact False.elim h
theorem zmJ (hc:X.calm=true):zb2 X W (.builtin "min") zkw:=by
 refine ⟨_,ziF hc,?_⟩
 intro G ι Ω H σ xs as Q w d h
 unfold zkw at h
 split at h
 ·rename_i i j
  obtain ⟨x,y,rfl,d1,d2⟩:=den2 d
  simp only [Den] at d1 d2;subst d1 d2
  refine ⟨i,j,rfl,?_⟩
  have e:(if j < i then j else i)=min i j:=by split <;> omega
  rw [e]
  exact zaw w (by simp only [Den]) h
 ·exact False.elim h
@[simp] def zk3 (c:Bool) (as:List A):Mo A:=fun Ω=>match as with
 | [a]=>(match zaI Ω a with
  | some ds=>mkL c ds Ω
  | none=>none)
 | _=>none
theorem zml (c:Bool):zb2 X W (.type "list") (zk3 c):=by
 refine ⟨_,zfw,?_⟩
 intro G ι Ω H σ xs as Q w d h
 unfold zk3 at h
 split at h
 ·rename_i a
  split at h
  ·rename_i ds e
   obtain ⟨x,rfl,d1⟩:=den1 d
   obtain ⟨p,ys,rfl,h2,h3⟩:=zc7 w d1 e
   exact ⟨p,ys,rfl,h2,fun l hl=>zfv w hl h3 h⟩
  ·exact False.elim h
 ·exact False.elim h
def tyA (Ω:Sto):A→Option String
 | .int _=>some "int"
 | .bl _=>some "bool"
 | .str _=>some "str"
 | .non=>some "NoneType"
 | .tup _=>some "tuple"
 | .lst _=>some "list"
 | .cel k=>match Ω[k]? with
  | some (.lst _)=>some "list"
  | some (.dct _)=>some "dict"
  | _=>none
 | _=>none
theorem zmU {K:PySem.W.Frag} {G H:Hp} {ι:List Addr} {Ω:Sto} {v:V} {a:A} {t:String} (w:Wd K G ι Ω H) (d:Den K G ι v a) (h:tyA Ω a=some t):TyOf K H v (.type t):=by
 cases a with
 | int i=>simp only [tyA,Option.some.injEq] at h;subst h;simp only [Den] at d;subst d;exact .int i
 | bl i=>simp only [tyA,Option.some.injEq] at h;subst h;simp only [Den] at d;subst d;exact .bl i
 | str i=>simp only [tyA,Option.some.injEq] at h;subst h;simp only [Den] at d;subst d;exact .str i
 | non=>simp only [tyA,Option.some.injEq] at h;subst h;simp only [Den] at d;subst d;exact .non
 | tup ds=>simp only [tyA,Option.some.injEq] at h;subst h;simp only [Den] at d;obtain ⟨p,xs,rfl,h2,_⟩:=d;exact .tup (w.sub _ _ h2)
 | lst ds=>simp only [tyA,Option.some.injEq] at h;subst h;simp only [Den] at d;obtain ⟨p,xs,rfl,h2,_⟩:=d;exact .lst (w.sub _ _ h2)
 | cel k =>
  simp only [Den] at d
  obtain ⟨p,rfl,hk⟩:=d
  simp only [tyA] at h
  split at h
  ·rename_i ds e
   cases h
   obtain ⟨g,xs,h3,_⟩:=w.cel k _ p e hk
   exact .lst h3
  ·rename_i ds e
   cases h
   obtain ⟨g,xs,h3,_⟩:=w.cel k _ p e hk
   exact .dK h3
  ·cases h
 | _=>simp [tyA] at h
theorem zdh (K:PySem.W.Frag):PySem.W.kitOne K (.type "int") (.type "int")=some true:=by unfold PySem.W.kitOne;rw [if_pos (beq_self_eq_true _)]
theorem zcN (K:PySem.W.Frag):PySem.W.kitOne K (.type "bool") (.type "int")=some true:=by kernel_rfl
theorem zdc (K:PySem.W.Frag):PySem.W.kitOne K (.type "str") (.type "int")=some false:=by kernel_rfl
theorem zbF (K:PySem.W.Frag):PySem.W.kitOne K (.type "NoneType") (.type "int")=some false:=by kernel_rfl
theorem zcu (K:PySem.W.Frag):PySem.W.kitOne K (.type "tuple") (.type "int")=some false:=by kernel_rfl
theorem zcQ (K:PySem.W.Frag):PySem.W.kitOne K (.type "list") (.type "int")=some false:=by kernel_rfl
theorem zcY (K:PySem.W.Frag):PySem.W.kitOne K (.type "int") (.type "bool")=some false:=by kernel_rfl
theorem zco (K:PySem.W.Frag):PySem.W.kitOne K (.type "bool") (.type "bool")=some true:=by unfold PySem.W.kitOne;rw [if_pos (beq_self_eq_true _)]
theorem zcV (K:PySem.W.Frag):PySem.W.kitOne K (.type "str") (.type "bool")=some false:=by kernel_rfl
theorem zbw (K:PySem.W.Frag):PySem.W.kitOne K (.type "NoneType") (.type "bool")=some false:=by kernel_rfl
theorem zcf (K:PySem.W.Frag):PySem.W.kitOne K (.type "tuple") (.type "bool")=some false:=by kernel_rfl
theorem zcr (K:PySem.W.Frag):PySem.W.kitOne K (.type "list") (.type "bool")=some false:=by kernel_rfl
theorem zcw (K:PySem.W.Frag):PySem.W.kitOne K (.type "int") (.type "tuple")=some false:=by kernel_rfl
theorem zcd (K:PySem.W.Frag):PySem.W.kitOne K (.type "bool") (.type "tuple")=some false:=by kernel_rfl
theorem zcx (K:PySem.W.Frag):PySem.W.kitOne K (.type "str") (.type "tuple")=some false:=by kernel_rfl
theorem zbm (K:PySem.W.Frag):PySem.W.kitOne K (.type "NoneType") (.type "tuple")=some false:=by kernel_rfl
theorem zbW (K:PySem.W.Frag):PySem.W.kitOne K (.type "tuple") (.type "tuple")=some true:=by unfold PySem.W.kitOne;rw [if_pos (beq_self_eq_true _)]
theorem zb5 (K:PySem.W.Frag):PySem.W.kitOne K (.type "list") (.type "tuple")=some false:=by kernel_rfl
theorem zcR (K:PySem.W.Frag):PySem.W.kitOne K (.type "int") (.type "list")=some false:=by kernel_rfl
theorem zct (K:PySem.W.Frag):PySem.W.kitOne K (.type "bool") (.type "list")=some false:=by kernel_rfl
theorem zc1 (K:PySem.W.Frag):PySem.W.kitOne K (.type "str") (.type "list")=some false:=by kernel_rfl
theorem zbv (K:PySem.W.Frag):PySem.W.kitOne K (.type "NoneType") (.type "list")=some false:=by kernel_rfl
theorem zce (K:PySem.W.Frag):PySem.W.kitOne K (.type "tuple") (.type "list")=some false:=by kernel_rfl
theorem zcs (K:PySem.W.Frag):PySem.W.kitOne K (.type "list") (.type "list")=some true:=by unfold PySem.W.kitOne;rw [if_pos (beq_self_eq_true _)]
theorem zdk (K:PySem.W.Frag):PySem.W.kitOne K (.type "int") (.type "str")=some false:=by kernel_rfl
theorem zcZ (K:PySem.W.Frag):PySem.W.kitOne K (.type "bool") (.type "str")=some false:=by kernel_rfl
theorem zdg (K:PySem.W.Frag):PySem.W.kitOne K (.type "str") (.type "str")=some true:=by unfold PySem.W.kitOne;rw [if_pos (beq_self_eq_true _)]
theorem zbH (K:PySem.W.Frag):PySem.W.kitOne K (.type "NoneType") (.type "str")=some false:=by kernel_rfl
theorem zcq (K:PySem.W.Frag):PySem.W.kitOne K (.type "tuple") (.type "str")=some false:=by kernel_rfl
theorem zcP (K:PySem.W.Frag):PySem.W.kitOne K (.type "list") (.type "str")=some false:=by kernel_rfl
inductive TyP:String→String→Bool→Prop where
 | zdh:TyP "int" "int" true
 | zcN:TyP "bool" "int" true
 | zdc:TyP "str" "int" false
 | zbF:TyP "NoneType" "int" false
 | zcu:TyP "tuple" "int" false
 | zcQ:TyP "list" "int" false
 | zcY:TyP "int" "bool" false
 | zco:TyP "bool" "bool" true
 | zcV:TyP "str" "bool" false
 | zbw:TyP "NoneType" "bool" false
 | zcf:TyP "tuple" "bool" false
 | zcr:TyP "list" "bool" false
 | zcw:TyP "int" "tuple" false
 | zcd:TyP "bool" "tuple" false
 | zcx:TyP "str" "tuple" false
 | zbm:TyP "NoneType" "tuple" false
 | zbW:TyP "tuple" "tuple" true
 | zb5:TyP "list" "tuple" false
 | zcR:TyP "int" "list" false
 | zct:TyP "bool" "list" false
 | zc1:TyP "str" "list" false
 | zbv:TyP "NoneType" "list" false
 | zce:TyP "tuple" "list" false
 | zcs:TyP "list" "list" true
 | zdk:TyP "int" "str" false
 | zcZ:TyP "bool" "str" false
 | zdg:TyP "str" "str" true
 | zbH:TyP "NoneType" "str" false
 | zcq:TyP "tuple" "str" false
 | zcP:TyP "list" "str" false
theorem TyP.ok (K:PySem.W.Frag) {t n:String} {b:Bool} (h:TyP t n b):PySem.W.kitOne K (.type t) (.type n)=some b:=by
 cases h
 ·exact V2.zdh K
 ·exact V2.zcN K
 ·exact V2.zdc K
 ·exact V2.zbF K
 ·exact V2.zcu K
 ·exact V2.zcQ K
 ·exact V2.zcY K
 ·exact V2.zco K
 ·exact V2.zcV K
 ·exact V2.zbw K
 ·exact V2.zcf K
 ·exact V2.zcr K
 ·exact V2.zcw K
 ·exact V2.zcd K
 ·exact V2.zcx K
 ·exact V2.zbm K
 ·exact V2.zbW K
 ·exact V2.zb5 K
 ·exact V2.zcR K
 ·exact V2.zct K
 ·exact V2.zc1 K
 ·exact V2.zbv K
 ·exact V2.zce K
 ·exact V2.zcs K
 ·exact V2.zdk K
 ·exact V2.zcZ K
 ·exact V2.zdg K
 ·exact V2.zbH K
 ·exact V2.zcq K
 ·exact V2.zcP K
def isTy (t n:String):Option Bool:=if t = "int"∧n = "int" then some true else if t = "bool"∧n = "int" then some true else if t = "str"∧n = "int" then some false else if t = "NoneType"∧n = "int" then some false else if t = "tuple"∧n = "int" then some false else if t = "list"∧n = "int" then some false else if t = "int"∧n = "bool" then some false else if t = "bool"∧n = "bool" then some true else if t = "str"∧n = "bool" then some false else if t = "NoneType"∧n = "bool" then some false else if t = "tuple"∧n = "bool" then some false else if t = "list"∧n = "bool" then some false else if t = "int"∧n = "tuple" then some false else if t = "bool"∧n = "tuple" then some false else if t = "str"∧n = "tuple" then some false else if t = "NoneType"∧n = "tuple" then some false else if t = "tuple"∧n = "tuple" then some true else if t = "list"∧n = "tuple" then some false else if t = "int"∧n = "list" then some false else if t = "bool"∧n = "list" then some false else if t = "str"∧n = "list" then some false else if t = "NoneType"∧n = "list" then some false else if t = "tuple"∧n = "list" then some false else if t = "list"∧n = "list" then some true else if t = "int"∧n = "str" then some false else if t = "bool"∧n = "str" then some false else if t = "str"∧n = "str" then some true else if t = "NoneType"∧n = "str" then some false else if t = "tuple"∧n = "str" then some false else if t = "list"∧n = "str" then some false else none
theorem zmv {t n:String} {b:Bool} (h:isTy t n=some b):TyP t n b:=by
 unfold isTy at h
 by_cases h0:t = "int"∧n = "int"
 ·rw [if_pos h0] at h;cases h;obtain ⟨rfl,rfl⟩:=h0;exact .zdh
 rw [if_neg h0] at h
 by_cases h1:t = "bool"∧n = "int"
 ·rw [if_pos h1] at h;cases h;obtain ⟨rfl,rfl⟩:=h1;exact .zcN
 rw [if_neg h1] at h
 by_cases h2:t = "str"∧n = "int"
 ·rw [if_pos h2] at h;cases h;obtain ⟨rfl,rfl⟩:=h2;exact .zdc
 rw [if_neg h2] at h
 by_cases h3:t = "NoneType"∧n = "int"
 ·rw [if_pos h3] at h;cases h;obtain ⟨rfl,rfl⟩:=h3;exact .zbF
 rw [if_neg h3] at h
 by_cases h4:t = "tuple"∧n = "int"
 ·rw [if_pos h4] at h;cases h;obtain ⟨rfl,rfl⟩:=h4;exact .zcu
 rw [if_neg h4] at h
 by_cases h5:t = "list"∧n = "int"
 ·rw [if_pos h5] at h;cases h;obtain ⟨rfl,rfl⟩:=h5;exact .zcQ
 rw [if_neg h5] at h
 by_cases h6:t = "int"∧n = "bool"
 ·rw [if_pos h6] at h;cases h;obtain ⟨rfl,rfl⟩:=h6;exact .zcY
 rw [if_neg h6] at h
 by_cases h7:t = "bool"∧n = "bool"
 ·rw [if_pos h7] at h;cases h;obtain ⟨rfl,rfl⟩:=h7;exact .zco
 rw [if_neg h7] at h
 by_cases h8:t = "str"∧n = "bool"
 ·rw [if_pos h8] at h;cases h;obtain ⟨rfl,rfl⟩:=h8;exact .zcV
 rw [if_neg h8] at h
 by_cases h9:t = "NoneType"∧n = "bool"
 ·rw [if_pos h9] at h;cases h;obtain ⟨rfl,rfl⟩:=h9;exact .zbw
 rw [if_neg h9] at h
 by_cases h10:t = "tuple"∧n = "bool"
 ·rw [if_pos h10] at h;cases h;obtain ⟨rfl,rfl⟩:=h10;exact .zcf
 rw [if_neg h10] at h
 by_cases h11:t = "list"∧n = "bool"
 ·rw [if_pos h11] at h;cases h;obtain ⟨rfl,rfl⟩:=h11;exact .zcr
 rw [if_neg h11] at h
 by_cases h12:t = "int"∧n = "tuple"
 ·rw [if_pos h12] at h;cases h;obtain ⟨rfl,rfl⟩:=h12;exact .zcw
 rw [if_neg h12] at h
 by_cases h13:t = "bool"∧n = "tuple"
 ·rw [if_pos h13] at h;cases h;obtain ⟨rfl,rfl⟩:=h13;exact .zcd
 rw [if_neg h13] at h
 by_cases h14:t = "str"∧n = "tuple"
 ·rw [if_pos h14] at h;cases h;obtain ⟨rfl,rfl⟩:=h14;exact .zcx
 rw [if_neg h14] at h
 by_cases h15:t = "NoneType"∧n = "tuple"
 ·rw [if_pos h15] at h;cases h;obtain ⟨rfl,rfl⟩:=h15;exact .zbm
 rw [if_neg h15] at h
 by_cases h16:t = "tuple"∧n = "tuple"
 ·rw [if_pos h16] at h;cases h;obtain ⟨rfl,rfl⟩:=h16;exact .zbW
 rw [if_neg h16] at h
 by_cases h17:t = "list"∧n = "tuple"
 ·rw [if_pos h17] at h;cases h;obtain ⟨rfl,rfl⟩:=h17;exact .zb5
 rw [if_neg h17] at h
 by_cases h18:t = "int"∧n = "list"
 ·rw [if_pos h18] at h;cases h;obtain ⟨rfl,rfl⟩:=h18;exact .zcR
 rw [if_neg h18] at h
 by_cases h19:t = "bool"∧n = "list"
 ·rw [if_pos h19] at h;cases h;obtain ⟨rfl,rfl⟩:=h19;exact .zct
 rw [if_neg h19] at h
 by_cases h20:t = "str"∧n = "list"
 ·rw [if_pos h20] at h;cases h;obtain ⟨rfl,rfl⟩:=h20;exact .zc1
 rw [if_neg h20] at h
 by_cases h21:t = "NoneType"∧n = "list"
 ·rw [if_pos h21] at h;cases h;obtain ⟨rfl,rfl⟩:=h21;exact .zbv
 rw [if_neg h21] at h
 by_cases h22:t = "tuple"∧n = "list"
 ·rw [if_pos h22] at h;cases h;obtain ⟨rfl,rfl⟩:=h22;exact .zce
 rw [if_neg h22] at h
 by_cases h23:t = "list"∧n = "list"
 ·rw [if_pos h23] at h;cases h;obtain ⟨rfl,rfl⟩:=h23;exact .zcs
 rw [if_neg h23] at h
 by_cases h24:t = "int"∧n = "str"
 ·rw [if_pos h24] at h;cases h;obtain ⟨rfl,rfl⟩:=h24;exact .zdk
 rw [if_neg h24] at h
 by_cases h25:t = "bool"∧n = "str"
 ·rw [if_pos h25] at h;cases h;obtain ⟨rfl,rfl⟩:=h25;exact .zcZ
 rw [if_neg h25] at h
 by_cases h26:t = "str"∧n = "str"
 ·rw [if_pos h26] at h;cases h;obtain ⟨rfl,rfl⟩:=h26;exact .zdg
 rw [if_neg h26] at h
 by_cases h27:t = "NoneType"∧n = "str"
 ·rw [if_pos h27] at h;cases h;obtain ⟨rfl,rfl⟩:=h27;exact .zbH
 rw [if_neg h27] at h
 by_cases h28:t = "tuple"∧n = "str"
 ·rw [if_pos h28] at h;cases h;obtain ⟨rfl,rfl⟩:=h28;exact .zcq
 rw [if_neg h28] at h
 by_cases h29:t = "list"∧n = "str"
 ·rw [if_pos h29] at h;cases h;obtain ⟨rfl,rfl⟩:=h29;exact .zcP
 rw [if_neg h29] at h
 cases h
theorem zkK (K:PySem.W.Frag) {t n:String} {b:Bool} (h:isTy t n=some b):PySem.W.kitOne K (.type t) (.type n)=some b:=(zmv h).ok K
@[simp] def gIs1 (as:List A):Mo A:=fun Ω=>match as with
 | [a, .ty n]=>(match (tyA Ω a).bind fun t=>isTy t n with
  | some b=>some (.ok (.bl b),Ω)
  | none=>none)
 | _=>none
theorem zbT:zb2 X W (.builtin "isinstance") gIs1:=by
 refine ⟨_,zf2,?_⟩
 intro G ι Ω H σ xs as Q w d h
 unfold gIs1 at h
 split at h
 ·rename_i a n
  split at h
  ·rename_i b e
   rw [Option.bind_eq_some_iff] at e
   obtain ⟨t,e1,e2⟩:=e
   obtain ⟨x,y,rfl,d1,d2⟩:=den2 d
   simp only [Den] at d2;subst d2
   exact ⟨x,n,_,b,rfl,zmU w d1 e1,zkK _ e2,h _ H G ι (Ext.refl _ _) w (by simp only [Den])⟩
  ·exact False.elim h
 ·exact False.elim h
def MtV (K:PySem.W.Frag) (W:WX) (r:V→List V→Hp→VK→Prop) (g:A→List A→Mo A):Prop :=
 ∀ G ι Ω H σ x xs a as Q,Wd K G ι Ω H→Den K G ι x a→DenL K G ι xs as→Post K (Den K) W G ι σ Q (g a as Ω)→r x xs H Q
def isL (Ω:Sto) (a:A):Prop:=∃ ds,zaj Ω a=some ds
open Classical in
@[simp] noncomputable def vBM (g:A→List A→Mo A) (fo:Ev→Mo A) (f:Ev→Mo (List A)):Ev→Mo A:=fun ρ=>mb (fo ρ) fun o Ω=>if isL Ω o then mb (f ρ) (fun as=>g o as) Ω else none
theorem zjJ {K:PySem.W.Frag} {G H:Hp} {ι:List Addr} {Ω:Sto} {v:V} {a:A} (w:Wd K G ι Ω H) (d:Den K G ι v a) (h:isL Ω a):tyV K "list" v H:=by
 obtain ⟨ds,e⟩:=h
 obtain ⟨p,xs,rfl,q,_⟩:=zaF w d e
 exact .inl ⟨rfl,xs,q⟩
theorem zjb {name:Str} {apos:Pos} {id:String} {r:V→List V→Hp→VK→Prop} {g:A→List A→Mo A} (pa:PlainAttrs "list") (slot:Slot "list" name id) (hty:typeOf (.builtin id)=pure (.type "method_descriptor")) (hm:MtR X id r) (hv:MtV X.K W r g) (ho:VE X W a fa) (ha:VA X W (e :: es) fs)
  (hbase:attributeBase a name X.env (eval a X.env)=eval a X.env:=by rfl)
  (hfew:((backTo pos (starEach (e :: es) X.env)).all (fun x=>!x.1) && (backToKw pos (keywordEach [] X.env)).all (fun x=>x.1.isSome)
   && decide ((e :: es).length + ([] : List Keyword).length + (if ([] : List Keyword).isEmpty then 0 else 1) < 30))=true:=by rfl)
  (hline:(apos.endLine == pos.line)=true:=by rfl) (hs:starEach (e :: es) X.env=(false,eval e X.env) :: starEach es X.env:=by rfl) (hplain:(backTo pos (starEach es X.env)).any (·.1)=false:=by rfl) :
  VE X W (.Call (.Attribute a name apos) (e :: es) [] pos) (vBM g fa fs):=by
 obtain ⟨t,p1,s1⟩:=ho
 obtain ⟨u,p2,s2⟩:=ha
 refine ⟨_,zmR pa slot hty hm p1 p2 hbase hfew hline hs hplain,fun G ι Ω H σ ρ Q w r h=>?_⟩
 refine s1 G ι Ω H σ ρ _ w r (Post.mb h fun x Ω1 v H1 G1 ι1 x1 w1 d1 h1=>?_)
 split at h1
 ·rename_i hl
  refine ⟨zjJ w1 d1 hl,s2 G1 ι1 Ω1 H1 σ ρ _ w1 (r.ext x1) (Post.mb h1 fun as Ω2 vs H2 G2 ι2 x2 w2 d2 h2=>?_)⟩
  exact hv G2 ι2 Ω2 H2 σ v vs x as Q w2 (d1.ext x2) d2 h2
 ·exact False.elim h1
def zd3 (Ω:Sto):A→Option (Nat × List A)
 | .cel k=>match Ω[k]? with
  | some (.lst ds)=>some (k,ds)
  | _=>none
 | _=>none
theorem zi8 {K:PySem.W.Frag} {G H:Hp} {ι:List Addr} {Ω:Sto} {v:V} {a:A} {k:Nat} {ds:List A} (w:Wd K G ι Ω H) (d:Den K G ι v a) (h:zd3 Ω a=some (k,ds)):∃ p xs,v = .ref p∧ι[k]? = some p∧G p=none∧H p=some (.lst xs)∧DenL K G ι xs ds:=by
 cases a with
 | cel j =>
  simp only [zd3] at h
  split at h
  ·rename_i es e
   cases h
   simp only [Den] at d
   obtain ⟨p,rfl,hk⟩:=d
   obtain ⟨g,xs,h3,h4⟩:=w.cel k _ p e hk
   exact ⟨p,xs,rfl,hk,g,h3,h4⟩
  ·cases h
 | _=>simp [zd3] at h
@[simp] def zdb (o:A) (as:List A):Mo A:=fun Ω=>match zd3 Ω o,as with
 | some (k,ds),[y]=>if ds.length < sizeLine then some (.ok .non,Ω.set k (.lst (ds ++ [y]))) else none
 | _,_=>none
theorem zdy:MtV X.K W ziI zdb:=by
 intro G ι Ω H σ x xs a as Q w d1 d2 h
 unfold zdb at h
 split at h
 ·rename_i k ds y e
  split at h
  ·rename_i hl
   obtain ⟨p,zs,rfl,hk,g,h3,h4⟩:=zi8 w d1 e
   obtain ⟨u,rfl,du⟩:=den1 d2
   refine ⟨p,zs,u,rfl,rfl,h3,by rw [h4.length];exact hl,?_⟩
   exact h _ _ G ι (Ext.refl _ _) (w.put (c := .lst (ds ++ [y])) hk g ⟨g,_,zas,h4.append (.cons du .nil)⟩) (by simp only [Den])
  ·exact False.elim h
 ·exact False.elim h
end
end V2
namespace V2
open PySem PySem.Spec PyProof.Rows L2
mutual
def Cl (n:Nat):A→Prop
 | .cel k=>k < n
 | .tup ds=>ClL n ds
 | .lst ds=>ClL n ds
 | _=>True
def ClL (n:Nat):List A→Prop
 | []=>True
 | d :: ds=>Cl n d∧ClL n ds
end
section
variable {K:PySem.W.Frag} {G:Hp} {ι:List Addr}
mutual
theorem Den.cl:∀ {v:V} {d:A},Den K G ι v d→Cl ι.length d
 | _, .int _,_=>by simp only [Cl]
 | _, .bl _,_=>by simp only [Cl]
 | _, .str _,_=>by simp only [Cl]
 | _, .non,_=>by simp only [Cl]
 | _, .ty _,_=>by simp only [Cl]
 | _, .adr _,_=>by simp only [Cl]
 | _, .exn _ _ _ _,_=>by simp only [Cl]
 | _, .gl _,_=>by simp only [Cl]
 | _, .scr _,_=>by simp only [Cl]
 | _, .tup ds,h=>by
  simp only [Den] at h;simp only [Cl]
  obtain ⟨a,xs,_,_,h3⟩:=h
  exact DenL.cl h3
 | _, .lst ds,h=>by
  simp only [Den] at h;simp only [Cl]
  obtain ⟨a,xs,_,_,h3⟩:=h
  exact DenL.cl h3
 | _, .cel k,h=>by
  simp only [Den] at h;simp only [Cl]
  obtain ⟨a,_,h2⟩:=h
  exact (List.getElem?_eq_some_iff.mp h2).1
theorem DenL.cl:∀ {xs:List V} {ds:List A},DenL K G ι xs ds→ClL ι.length ds
 | _,[],_=>by simp only [ClL]
 | _,d :: ds,h=>by
  simp only [DenL] at h;simp only [ClL]
  obtain ⟨x,r,_,h2,h3⟩:=h
  exact ⟨Den.cl h2,DenL.cl h3⟩
end
mutual
theorem Den.cut {ι':List Addr} {n:Nat} (e:∀ k,k < n→ι[k]? = ι'[k]?):∀ {v:V} {d:A},Den K G ι' v d→Cl n d→Den K G ι v d
 | _, .int _,h,_=>by simpa only [Den] using h
 | _, .bl _,h,_=>by simpa only [Den] using h
 | _, .str _,h,_=>by simpa only [Den] using h
 | _, .non,h,_=>by simpa only [Den] using h
 | _, .ty _,h,_=>by simpa only [Den] using h
 | _, .adr _,h,_=>by simpa only [Den] using h
 | _, .exn _ _ _ _,h,_=>by simpa only [Den] using h
 | _, .gl _,h,_=>by simpa only [Den] using h
 | _, .scr _,h,_=>by simpa only [Den] using h
 | _, .tup ds,h,c=>by
  simp only [Den] at h ⊢;simp only [Cl] at c
  obtain ⟨a,xs,h1,h2,h3⟩:=h
  exact ⟨a,xs,h1,h2,DenL.cut e h3 c⟩
 | _, .lst ds,h,c=>by
  simp only [Den] at h ⊢;simp only [Cl] at c
  obtain ⟨a,xs,h1,h2,h3⟩:=h
  exact ⟨a,xs,h1,h2,DenL.cut e h3 c⟩
 | _, .cel k,h,c=>by
  simp only [Den] at h ⊢;simp only [Cl] at c
  obtain ⟨a,h1,h2⟩:=h
  exact ⟨a,h1,(e k c).trans h2⟩
theorem DenL.cut {ι':List Addr} {n:Nat} (e:∀ k,k < n→ι[k]? = ι'[k]?):∀ {xs:List V} {ds:List A},DenL K G ι' xs ds→ClL n ds→DenL K G ι xs ds
 | _,[],h,_=>by simpa only [DenL] using h
 | _,d :: ds,h,c=>by
  simp only [DenL] at h ⊢;simp only [ClL] at c
  obtain ⟨x,r,h1,h2,h3⟩:=h
  exact ⟨x,r,h1,Den.cut e h2 c.1,DenL.cut e h3 c.2⟩
end
def ClF (n:Nat):Fd→Prop
 | .val a=>Cl n a
 | .lst ds=>ClL n ds
 | .dct kvs=>ClL n (kvs.map (·.2))
def ClFs (n:Nat):List (Str × Fd)→Prop
 | []=>True
 | p :: r=>ClF n p.2∧ClFs n r
def ClC (n:Nat):Cell→Prop
 | .lst ds=>ClL n ds
 | .dct kvs=>ClL n (kvs.map (·.2))
 | .ins _ fs=>ClFs n fs
 | _=>True
theorem FdOk.cl {H:Hp} {v:V} {fd:Fd} (h:FdOk K G ι H v fd):ClF ι.length fd:=by
 cases fd with
 | val a=>exact Den.cl h
 | lst ds=>obtain ⟨_,_,_,_,_,_,q⟩:=h;exact q.cl
 | dct kvs=>obtain ⟨_,_,_,_,_,_,_,q⟩:=h;exact q.cl
theorem zcD.cl {H:Hp}:∀ {ws:List (Str × V)} {fs:List (Str × Fd)},zcD K G ι H ws fs→ClFs ι.length fs
 | [],[],_=>trivial
 | (_,_) :: _,(_,_) :: _,h=>⟨h.2.1.cl,h.2.2.cl⟩
 | [],_ :: _,h=>h.elim
 | _ :: _,[],h=>h.elim
theorem zc3.cl {H:Hp} {a:Addr} {c:Cell} (h:zc3 K G ι H a c):ClC ι.length c:=by
 cases c with
 | lst ds=>obtain ⟨_,_,_,q⟩:=h;exact q.cl
 | dct kvs=>obtain ⟨_,_,_,_,q⟩:=h;exact q.cl
 | ins cls fs=>obtain ⟨_,_,_,_,_,_,q⟩:=h;exact q.cl
 | tab x pos qual=>trivial
 | dead=>trivial
theorem FdOk.cut {H:Hp} {ι':List Addr} {n:Nat} {v:V} {fd:Fd} (h:FdOk K G ι' H v fd) (e:∀ k,k < n→ι[k]? = ι'[k]?) (hi:∀ b,b ∉ ι'→b ∉ ι) (c:ClF n fd):FdOk K G ι H v fd:=by
 cases fd with
 | val a=>exact Den.cut e h c
 | lst ds=>obtain ⟨b,xs,h1,h2,h3,h4,h5⟩:=h;exact ⟨b,xs,h1,h2,hi b h3,h4,h5.cut e c⟩
 | dct kvs=>obtain ⟨b,ws,h1,h2,h3,h4,h5,h6⟩:=h;exact ⟨b,ws,h1,h2,hi b h3,h4,h5,h6.cut e c⟩
theorem zcD.cut {H:Hp} {ι':List Addr} {n:Nat} (e:∀ k,k < n→ι[k]? = ι'[k]?) (hi:∀ b,b ∉ ι'→b ∉ ι):∀ {ws:List (Str × V)} {fs:List (Str × Fd)},zcD K G ι' H ws fs→ClFs n fs→zcD K G ι H ws fs
 | [],[],_,_=>trivial
 | (_,_) :: _,(_,_) :: _,h,c=>⟨h.1,h.2.1.cut e hi c.1,zcD.cut e hi h.2.2 c.2⟩
 | [],_ :: _,h,_=>h.elim
 | _ :: _,[],h,_=>h.elim
theorem Ext.cut {G':Hp} {ι':List Addr} (e:Ext G ι G' ι'):∀ k,k < ι.length→ι[k]? = ι'[k]?:=fun k hk=>by
 rw [List.getElem?_eq_getElem hk,e.pre k _ (List.getElem?_eq_getElem hk)]
theorem Wd.cut {G' H H':Hp} {ι':List Addr} {Ω Ω':Sto} (w:Wd K G ι Ω H) (w':Wd K G' ι' Ω' H') (e:Ext G ι G' ι') (ht:Ω'.take Ω.length=Ω):Wd K G' ι Ω H' where
 sub:=w'.sub
 inj:=w.inj
 len:=w.len
 live:=fun a ha=>by
  obtain ⟨k,hk,ea⟩:=List.getElem_of_mem ha
  exact w'.live a (List.mem_of_getElem? (e.pre k a (by rw [← ea];exact List.getElem?_eq_getElem hk)))
 cel:=fun k c a h1 h2=>by
  have hk:k < Ω.length:=(List.getElem?_eq_some_iff.mp h1).1
  have h1':Ω'[k]? = some c:=by
   rw [← ht,List.getElem?_take] at h1
   rw [if_pos hk] at h1;exact h1
  have q:=w'.cel k c a h1' (e.pre k a h2)
  have q0:=w.cel k c a h1 h2
  cases c with
  | lst ds =>
   obtain ⟨g,xs,h3,h4⟩:=q
   obtain ⟨_,_,_,h5⟩:=q0
   exact ⟨g,xs,h3,h4.cut e.cut h5.cl⟩
  | dct kvs =>
   obtain ⟨g,ws,h3,h4,h5⟩:=q
   obtain ⟨_,_,_,_,h6⟩:=q0
   exact ⟨g,ws,h3,h4,h5.cut e.cut h6.cl⟩
  | ins cls fs =>
   obtain ⟨g,C,dx,ws,h0,h3,h4⟩:=q
   obtain ⟨_,_,_,_,_,_,h6⟩:=q0
   exact ⟨g,C,dx,ws,h0,h3,h4.cut (n:=ι.length) e.cut (fun b hb z=>hb (by
    obtain ⟨k,hk,ea⟩:=List.getElem_of_mem z
    exact List.mem_of_getElem? (e.pre k b (by rw [← ea];exact List.getElem?_eq_getElem hk)))) h6.cl⟩
  | tab x pos qual=>exact q
  | dead=>trivial
 sep:=fun b k i k' i' h1 h2=>by
  have back:∀ {k i},zbN H' ι Ω k i b→zbN H' ι' Ω' k i b:=fun {k i} h=>h.to (fun a ha=>⟨e.pre k a ha,fun _ z=>z⟩) fun cls fs q=>by
   have hk:k < Ω.length:=(List.getElem?_eq_some_iff.mp q).1
   rw [← ht,List.getElem?_take,if_pos hk] at q
   exact q
  exact w'.sep b k i k' i' (back h1) (back h2)
end
open Classical in
noncomputable def trim (Ω:Sto):Option (Rs A × Sto)→Option (Rs A × Sto)
 | some (.ok a,Ω')=>if Ω'.take Ω.length=Ω∧Cl Ω.length a then some (.ok a,Ω) else some (.ok a,Ω')
 | some (.exc x,Ω')=>if Ω'.take Ω.length=Ω∧ClL Ω.length (x.fs.map (·.2)) then some (.exc x,Ω) else some (.exc x,Ω')
 | none=>none
theorem zll {K:PySem.W.Frag} {W:WX} {G H:Hp} {ι:List Addr} {Ω:Sto} {σ:L2.St} {Q:VK} {r:Option (Rs A × Sto)} (w:Wd K G ι Ω H) (h:Post K (Den K) W G ι σ Q (trim Ω r)):Post K (Den K) W G ι σ Q r:=by
 match r,h with
 | some (.ok a,Ω'),h =>
  simp only [trim] at h
  split at h
  ·rename_i hc
   exact fun v H' G' ι' e w' d=>h v H' G' ι ⟨e.same,fun _ _ q=>q⟩ (w.cut w' e hc.1) (d.cut e.cut (by rw [w.len];exact hc.2))
  ·exact h
 | some (.exc x,Ω'),h =>
  simp only [trim] at h
  split at h
  ·rename_i hc
   intro cls dx H' G' ι' e w' d
   refine h cls dx H' G' ι ⟨e.same,fun _ _ q=>q⟩ (w.cut w' e hc.1) d
  ·exact h
@[simp] def outR:OS→Option (Rs A × Sto)
 | some (.nx,_,Ω)=>some (.ok .non,Ω)
 | some (.ret a,_,Ω)=>some (.ok a,Ω)
 | some (.exc x,_,Ω)=>some (.exc x,Ω)
 | _=>none
@[simp] def ev0 (n:Nat) (ds:List A):Ev:=ds.map some ++ List.replicate (n - ds.length) none
@[simp] noncomputable def fnF (n:Nat) (b:MS):List A→Mo A:=fun ds Ω=>trim Ω (outR (b (ev0 n ds) Ω))
def spV (K:PySem.W.Frag) (n:Nat) (F:List A→Mo A):Sp:=fun vs H Q E=>vs.length=n∧∃ G ι Ω ds,Wd K G ι Ω H∧DenL K G ι vs ds∧Post K (Den K) (fun _=>E) G ι [] Q (F ds Ω)
abbrev DefV (P:Program) (w:World) (K:PySem.W.Frag) (mg:Str→Option Value) (base:Heap) (x:Str) (k:Nat) (ps:List Str) (F:List A→Mo A):Prop:=DefX P w K mg base x k ps (spV K ps.length F)
theorem zhz {K:PySem.W.Frag} {G:Hp} {ι:List Addr} {N:List Str} {vs:List V} {ds:List A} (d:DenL K G ι vs ds):EnvR K G ι (L2.start N vs) (ev0 N.length ds):=by
 unfold L2.start ev0
 have hl:=d.length
 refine ⟨by simp [hl],fun i a h=>?_⟩
 by_cases hi:i < ds.length
 ·rw [List.getElem?_append_left (by simpa using hi)] at h
  rw [List.getElem?_map] at h
  cases e:ds[i]? with
  | none=>rw [e] at h;cases h
  | some a' =>
   rw [e] at h
   cases h
   obtain ⟨v,q1,q2⟩:=d.get e
   refine ⟨v,?_,q2⟩
   rw [List.getElem?_append_left (by simp;omega),List.getElem?_map,q1]
   rfl
 ·rw [List.getElem?_append_right (by simpa using hi)] at h
  have:=List.mem_of_getElem? h
  simp at this
theorem zen {K:PySem.W.Frag} {N:List Str} {t:TS} {b:MS} {H:Hp} {vs:List V} {Q:VK} {E:XK} {n:Nat} (s:SimS K (fun _=>E) t b) (h:spV K n (fnF N.length b) vs H Q E):t { nx:=fun _ H'=>Q .non H',rt:=Q } (L2.start N vs) H:=by
 obtain ⟨hl,G,ι,Ω,ds,w,d,q⟩:=h
 refine s G ι Ω H _ (ev0 N.length ds) _ w (zhz d) ?_
 have q':=zll w q
 revert q'
 generalize b (ev0 N.length ds) Ω=r
 intro q'
 match r,q' with
 | some (.nx,ρ',Ω'),q'=>exact fun σ' H' G' ι' e w' r'=>q' .non H' G' ι' e w' (by simp only [Den])
 | some (.ret a,ρ',Ω'),q'=>exact fun σ' H' G' ι' e w' r' v d'=>q' v H' G' ι' e w' d'
 | some (.exc x,ρ',Ω'),q'=>exact fun σ' H' G' ι' e w' r' cls dx d'=>q' cls dx H' G' ι' e w' d'
 | some (.bk,ρ',Ω'),q'=>exact False.elim q'
 | some (.ct,ρ',Ω'),q'=>exact False.elim q'
section
variable {P:Program} {w:World} {K:PySem.W.Frag} {mg:Str→Option Value} {base:Heap}
theorem zj3 {x:Str} {st:Stmt} {N ps:List Str} {k:Nat} {b:MS} {f:Addr} {fd:FuncData} (F:Fun K x x st f fd) (S:zao N ps (zaa st))
  (hbody:∀ (f:Addr) (cdv:Value) (A:Around) (outer:List Env) (s:Shared) (H:Hp) (E:XK),Room k (A.deeper (envOfC x (zaa st) s.heap.objs.size f cdv)) →
   VSs (cxX P w K mg base N x (zaa st) f cdv A outer s H E) (fun _=>E) (zag st) b):FnOk P w K mg base (CXE P w) (k + 1) f fd ps (spV K ps.length (fnF N.length b)):=by
 obtain ⟨oc,od,kV,doc,pm,an,cdv,ct,osl,rfl,lk,hcd⟩:=F.ex
 refine zi7 lk hcd S (fun vs H Q E h=>h.1) fun A outer s H vs Q E hr hsp=>?_
 obtain ⟨t,p,q⟩:=hbody f cdv A outer s H E hr
 exact ⟨t,zhR p,zen q hsp⟩
theorem DefV.of {x:Str} {st:Stmt} {N ps:List Str} {k:Nat} {b:MS} (h:HasFn K mg x st) (S:zao N ps (zaa st))
  (bind:∀ (kV doc pm:Value) (an:Option Addr) (cdv ct:Value) (us:List Value),us.length=ps.length→bindArgs (PySem.W.fnOf x x (zap st) (zag st) (zaa st) .none kV doc pm an cdv ct) ⟨us,[]⟩ = pure (ps.zip us))
  (hbody:∀ (f:Addr) (cdv:Value) (A:Around) (outer:List Env) (s:Shared) (H:Hp) (E:XK),Room k (A.deeper (envOfC x (zaa st) s.heap.objs.size f cdv)) →
   VSs (cxX P w K mg base N x (zaa st) f cdv A outer s H E) (fun _=>E) (zag st) b):DefV P w K mg base x (k + 1) ps (fnF N.length b):=by
 obtain ⟨f,fd,hm,F⟩:=h.ex
 exact ⟨f,fd,zj3 F S hbody,hm,F.kp,F.binds bind⟩
abbrev DefN (P:Program) (w:World) (K:PySem.W.Frag) (mg:Str→Option Value) (base:Heap) (x:Str) (k:Nat) (ps:List Str) (F:List A→Mo A):Prop:=Def P w K mg base x k ps (fun vs H Q _=>spV K ps.length F vs H Q fun _ _ _=>False)
theorem zis {k:Nat} {f:Addr} {fd:FuncData} {ps:List Str} {sp:Sp} (F:FnOk P w K mg base (CXE P w) k f fd ps sp):FnOk P w K mg base CX0 k f fd ps (fun vs H Q _=>sp vs H Q fun _ _ _=>False) :=
 ⟨fun vs H Q E h=>F.len _ _ _ _ h,fun A outer s H args us vs Q E hr e0 hb r hsp=>codeAny_mono (F.run A outer s H args us vs Q _ hr e0 hb r hsp) fun r s' hq=>by
  cases r with
  | error ev=>obtain ⟨x,cls,dx,H',_,_,_,_,_,_,q⟩:=hq;exact q.elim
  | ok fl=>cases fl <;> exact hq⟩
theorem DefV.calm {x:Str} {k:Nat} {ps:List Str} {F:List A→Mo A} (D:DefV P w K mg base x k ps F):DefN P w K mg base x k ps F:=by
 obtain ⟨f,fd,h1,h2,h3,h4⟩:=D.ex
 exact ⟨f,fd,zis h1,h2,h3,h4⟩
def zjA (K:PySem.W.Frag):Sp:=fun vs H Q _=>∃ (a:Addr) (ns:List Int),vs=[.ref a]∧SqL K H a (ns.map V.int)∧ns.length ≤ 63∧∀ H',Q (.bl true) H'
theorem zmV {fa:Addr} {fd:FuncData} {k:Nat} {F:List A→Mo A} (h1:FnOk P w K mg base (CXE P w) k fa fd ["_law_script"] (spV K 1 F)) (hF:∀ ns:List Int,ns.length ≤ 63→∃ Ω,F [.scr ns] []=some (.ok (.bl true),Ω)) :
  FnOk P w K mg base CX0 k fa fd ["_law_script"] (zjA K):=by
 refine (zis h1).imp fun vs H Q E hq=>?_
 obtain ⟨a,ns,rfl,hs,hl,q⟩:=hq
 obtain ⟨Ω,e⟩:=hF ns hl
 refine ⟨rfl,H,[],[],[.scr ns],⟨Same.refl _,List.nodup_nil,rfl,fun a ha=>by simp at ha,fun k c a h=>by simp at h,fun b k i k' i' h=>by obtain ⟨_,_,_,_,_,_,_,_,_,q,_⟩:=h;simp at q⟩, .cons (by simp only [Den];exact ⟨a,rfl,hs⟩) .nil,?_⟩
 rw [e]
 intro v H' G' ι' _ _ d
 simp only [Den] at d
 subst d
 exact q H'
end
section
variable {X:Cx} {W:WX} {x:Str} {p pos:Pos} {e:Expr} {es:List Expr} {fs:Ev→Mo (List A)}
@[simp] def zau (n:Nat) (F:List A→Mo A):List A→Mo A:=fun as=>if as.length=n then F as else stuck
theorem zhx {K:PySem.W.Frag} {G G1:Hp} {ι ι1:List Addr} {σ:L2.St} {Q:VK} {r:Option (Rs A × Sto)} {W:WX} (h:Post K (Den K) W G ι σ Q r) (x1:Ext G ι G1 ι1):Post K (Den K) (fun _=>fun cls dx H'=>W σ cls dx H') G1 ι1 [] Q r:=by
 match r,h with
 | some (.ok a,Ω2),h=>exact fun v H' G' ι' x2 w2 d2=>h v H' G' ι' (x1.trans x2) w2 d2
 | some (.exc a,Ω2),h=>exact fun cls dx H' G' ι' x2 w2 d2=>h cls dx H' G' ι' (x1.trans x2) w2 d2
theorem zbh {k:Nat} {ps:List Str} {F:List A→Mo A} (T:zhh X W) (D:DefV X.prog X.w X.K X.mg X.base x k ps F) (hr:Room k X.A) (hg:Gl X x) (ha:VA X W (e :: es) fs)
  (hdb:(x == ("__debug__" : Str))=false:=by decide) (he:starEach (e :: es) X.env=(false,eval e X.env) :: starEach es X.env:=by rfl) (hpl:(backTo pos (starEach es X.env)).any (·.1)=false:=by rfl):VE X W (.Call (.Name x p) (e :: es) [] pos) (vCl (zau ps.length F) fs):=by
 obtain ⟨t,p1,s1⟩:=ha
 refine ⟨_,zlm T D hr hg p1 hdb he hpl,fun G ι Ω H σ ρ Q w r h=>?_⟩
 refine s1 G ι Ω H σ ρ _ w r (Post.mb h fun as Ω1 vs H1 G1 ι1 x1 w1 d1 h1=>?_)
 unfold zau at h1
 split at h1
 ·rename_i hl
  exact ⟨by rw [d1.length];exact hl,G1,ι1,Ω1,as,w1,d1,zhx h1 (Ext.refl _ _)⟩
 ·exact False.elim h1
@[simp] def noX (F:List A→Mo A):List A→Mo A:=fun as Ω=>match F as Ω with
 | some (.exc _,_)=>none
 | r=>r
theorem zcc {k:Nat} {ps:List Str} {F:List A→Mo A} (D:DefN X.prog X.w X.K X.mg X.base x k ps F) (hr:Room k X.A) (hg:Gl X x) (ha:VA X W (e :: es) fs)
  (hdb:(x == ("__debug__" : Str))=false:=by decide) (he:starEach (e :: es) X.env=(false,eval e X.env) :: starEach es X.env:=by rfl) (hpl:(backTo pos (starEach es X.env)).any (·.1)=false:=by rfl):VE X W (.Call (.Name x p) (e :: es) [] pos) (vCl (noX (zau ps.length F)) fs):=by
 obtain ⟨t,p1,s1⟩:=ha
 refine ⟨_,zlT D hr hg p1 hdb he hpl,fun G ι Ω H σ ρ Q w r h=>?_⟩
 refine s1 G ι Ω H σ ρ _ w r (Post.mb h fun as Ω1 vs H1 G1 ι1 x1 w1 d1 h1=>?_)
 unfold noX zau at h1
 rw [List.append_nil]
 by_cases hl:as.length=ps.length
 ·rw [if_pos hl] at h1
  refine ⟨by rw [d1.length];exact hl,G1,ι1,Ω1,as,w1,d1,?_⟩
  revert h1
  generalize F as Ω1=q2
  intro h1
  match q2,h1 with
  | some (.ok a,Ω2),h1=>exact h1
 ·rw [if_neg hl] at h1
  exact False.elim h1
abbrev cI (i:Int):Ev→Mo A:=fun _=>ret (.int i)
abbrev cB (i:Bool):Ev→Mo A:=fun _=>ret (.bl i)
abbrev cS (i:Str):Ev→Mo A:=fun _=>ret (.str i)
abbrev cT (n:String):Ev→Mo A:=fun _=>ret (.ty n)
abbrev a0:Ev→Mo (List A):=fun _=>ret []
abbrev sl0:Ev→Mo (Option Int):=fun _=>ret none
end
end V2
namespace V2
open PySem L2
section
variable {α β:Type} {Ω Ω':Sto} {a:A}
@[simp] theorem zn7 (x:α) (k:α→Mo β):mb (ret x) k=k x:=rfl
theorem znd {m:Mo α} {k:α→Mo β} {x:α} (h:m Ω=some (.ok x,Ω')):mb m k Ω=k x Ω':=by unfold mb;rw [h]
@[simp] theorem zny (x:α) (k:α→Mo β):mb (need (some x)) k=k x:=rfl
theorem zjU {p:Prop} [Decidable p] (k:Unit→Mo β) (h:p):mb (chk p) k=k ():=by funext Ω;simp [mb,chk,h]
@[simp] theorem zn5 (x:α):(ret x:Mo α) Ω=some (.ok x,Ω):=rfl
@[simp] theorem zaV:trim Ω (some (.ok a,Ω))=some (.ok a,Ω):=by simp only [trim];split <;> rfl
theorem zeB {Δ:Sto} (h:Cl Ω.length a):trim Ω (some (.ok a,Ω ++ Δ))=some (.ok a,Ω):=by
 simp only [trim]
 rw [if_pos ⟨by simp,h⟩]
@[simp] theorem zn6 (x:α) (ρ:Ev) (k:α→Sto→OS):sM (ret x) ρ k=k x:=rfl
theorem zlX {m:Mo α} {ρ:Ev} {k:α→Sto→OS} {x:α} (h:m Ω=some (.ok x,Ω')):sM m ρ k Ω=k x Ω':=by unfold sM;rw [h]
@[simp] theorem zaJ (ρ:Ev):outR (some (.ret a,ρ,Ω))=some (.ok a,Ω):=rfl
@[simp] theorem znr (ρ:Ev):outR (some (.nx,ρ,Ω))=some (.ok .non,Ω):=rfl
theorem zat {f g:MS} {ρ ρ1:Ev} (h:f ρ Ω=some (.nx,ρ1,Ω')):sSeq f g ρ Ω=g ρ1 Ω':=by unfold sSeq;rw [h]
theorem ziC {f g:MS} {ρ ρ1:Ev} (h:f ρ Ω=some (.ret a,ρ1,Ω')):sSeq f g ρ Ω=some (.ret a,ρ1,Ω'):=by unfold sSeq;rw [h]
theorem zeh {α:Type} (xs:List α) (n:Nat):atI xs (n:Int)=xs[n]?:=by
 unfold atI ixN
 rw [if_pos (by omega)]
 by_cases h:(n:Int) < xs.length
 ·rw [if_pos h];simp
 ·rw [if_neg h];simp;omega
theorem zfa {α:Type} (xs:List α) (n:Nat):atI xs (OfNat.ofNat n:Int)=xs[n]?:=zeh xs n
theorem zjl {α:Type} (xs:List α):atI xs 0=xs[0]?:=zeh xs 0
theorem zke {α:Type} (xs:List α):atI xs 1=xs[1]?:=zeh xs 1
end
@[simp] theorem zlz:isTy "int" "int" = some true:=by simp [isTy]
@[simp] theorem zjK:isTy "tuple" "int" = some false:=by simp [isTy]
@[simp] theorem zky:isTy "list" "int" = some false:=by simp [isTy]
@[simp] theorem zkz:isTy "int" "bool" = some false:=by simp [isTy]
@[simp] theorem ziP:isTy "tuple" "tuple" = some true:=by simp [isTy]
@[simp] theorem zjD:isTy "list" "tuple" = some false:=by simp [isTy]
@[simp] theorem zjc:isTy "tuple" "list" = some false:=by simp [isTy]
@[simp] theorem zjZ:isTy "list" "list" = some true:=by simp [isTy]
@[simp] theorem zlE:isTy "str" "str" = some true:=by simp [isTy]
@[simp] theorem zlB (Ω:Sto) (ds:List A):zaj Ω (.lst ds)=some ds:=rfl
@[simp] theorem zlH (Ω:Sto) (ns:List Int):zaj Ω (.scr ns)=some (ns.map A.int):=rfl
@[simp] theorem zlC (Ω:Sto) (ds:List A):zaj Ω (.tup ds)=none:=rfl
@[simp] theorem zlG (Ω:Sto) (i:Int):zaj Ω (.int i)=none:=rfl
@[simp] theorem zlF (Ω:Sto) (ds:List A):zaI Ω (.lst ds)=some ds:=rfl
@[simp] theorem zlA (Ω:Sto) (ns:List Int):zaI Ω (.scr ns)=some (ns.map A.int):=rfl
@[simp] theorem zlD (Ω:Sto) (ds:List A):zaI Ω (.tup ds)=some ds:=rfl
@[simp] theorem zly (Ω:Sto) (k:Nat):zaI Ω (.cel k)=zaj Ω (.cel k):=rfl
@[simp] theorem znA (Ω:Sto) (i:Int):tyA Ω (.int i)=some "int":=rfl
@[simp] theorem zn4 (Ω:Sto) (i:Bool):tyA Ω (.bl i)=some "bool":=rfl
@[simp] theorem znh (Ω:Sto) (i:Str):tyA Ω (.str i)=some "str":=rfl
@[simp] theorem znQ (Ω:Sto):tyA Ω .non=some "NoneType":=rfl
@[simp] theorem zng (Ω:Sto) (ds:List A):tyA Ω (.tup ds)=some "tuple":=rfl
@[simp] theorem znI (Ω:Sto) (ds:List A):tyA Ω (.lst ds)=some "list":=rfl
@[simp] theorem zmz:zhY .non=some true:=rfl
@[simp] theorem zlI (i:Int):zhY (.int i)=some false:=rfl
@[simp] theorem zl8 (ds:List A):zhY (.tup ds)=some false:=rfl
@[simp] theorem zmS (ds:List A):zhY (.lst ds)=some false:=rfl
@[simp] theorem znf (b:Bool):zhY (.bl b)=some false:=rfl
theorem zbl {Ω:Sto} {k:Nat} {ds:List A} (h:Ω[k]? = some (.lst ds)):zaj Ω (.cel k)=some ds:=by simp [zaj,h]
theorem zk6 {Ω:Sto} {k:Nat} {ds:List A} (h:Ω[k]? = some (.lst ds)):tyA Ω (.cel k)=some "list":=by simp [tyA,h]
theorem zc5 {Ω:Sto} {k:Nat} {ds:List A} (h:Ω[k]? = some (.lst ds)):zd3 Ω (.cel k)=some (k,ds):=by simp [zd3,h]
theorem zgA {Ω:Sto} {a:A} {ds:List A} (h:zaj Ω a=some ds):isL Ω a:=⟨ds,h⟩
section
variable {ok:Sto→Prop} {g:A→MS} {b:MS} {x:A} {xs:List A} {ρ ρ0 ρ1:Ev} {Ω Ω0 Ω1:Sto} {a:A}
theorem zjF (h:ok Ω):fFor ok g b [] ρ Ω=some (.nx,ρ,Ω):=by simp [fFor,h]
theorem zdT (h:ok Ω) (hg:g x ρ Ω=some (.nx,ρ0,Ω0)) (hb:b ρ0 Ω0=some (.nx,ρ1,Ω1)):fFor ok g b (x :: xs) ρ Ω=fFor ok g b xs ρ1 Ω1:=by simp [fFor,h,hg,hb]
theorem zlq (h:ok Ω) (hg:g x ρ Ω=some (.nx,ρ0,Ω0)) (hb:b ρ0 Ω0=some (.ct,ρ1,Ω1)):fFor ok g b (x :: xs) ρ Ω=fFor ok g b xs ρ1 Ω1:=by simp [fFor,h,hg,hb]
theorem zeG (I:Nat→Ev→Sto→Prop) (hok:∀ i ρ Ω,I i ρ Ω→ok Ω):∀ (xs:List A) (j:Nat) (ρ:Ev) (Ω:Sto),I j ρ Ω →
  (∀ i x ρ Ω,xs[i]? = some x→I (j + i) ρ Ω→∃ ρ0 Ω0 ρ1 Ω1,g x ρ Ω=some (.nx,ρ0,Ω0)∧(b ρ0 Ω0=some (.nx,ρ1,Ω1)∨b ρ0 Ω0=some (.ct,ρ1,Ω1))∧I (j + i + 1) ρ1 Ω1) →
  ∃ ρ' Ω',fFor ok g b xs ρ Ω=some (.nx,ρ',Ω')∧I (j + xs.length) ρ' Ω'
 | [],j,ρ,Ω,h0,_=>⟨ρ,Ω,zjF (hok _ _ _ h0),h0⟩
 | x :: xs,j,ρ,Ω,h0,turn=>by
  obtain ⟨ρ0,Ω0,ρ1,Ω1,e1,e2,e3⟩:=turn 0 x ρ Ω rfl h0
  obtain ⟨ρ',Ω',q1,q2⟩:=zeG I hok xs (j + 1) ρ1 Ω1 e3 fun i y ρ Ω hy hI=>by
   have:=turn (i + 1) y ρ Ω (by simpa using hy) (by rw [show j + (i + 1)=j + 1 + i by omega];exact hI)
   rwa [show j + (i + 1) + 1=j + 1 + i + 1 by omega] at this
  refine ⟨ρ',Ω',?_,by rw [List.length_cons,show j + (xs.length + 1)=j + 1 + xs.length by omega];exact q2⟩
  rcases e2 with e2 | e2
  ·rw [zdT (hok _ _ _ h0) e1 e2,q1]
  ·rw [zlq (hok _ _ _ h0) e1 e2,q1]
end
section
variable {c:Ev→Mo Bool} {b:MS} {n:Nat} {ρ ρ1:Ev} {Ω Ω1 Ω2:Sto} {a:A}
theorem zf7 (hc:c ρ Ω=some (.ok true,Ω1)) (hb:b ρ Ω1=some (.nx,ρ1,Ω2)):zbx c b (n + 1) ρ Ω=zbx c b n ρ1 Ω2:=by simp [zbx,hc,hb]
theorem zg4 (hc:c ρ Ω=some (.ok false,Ω1)):zbx c b (n + 1) ρ Ω=some (.nx,ρ,Ω1):=by simp [zbx,hc]
end
end V2
namespace V2
open PySem PySem.Spec PyProof.Rows L2
def Ite (K:PySem.W.Frag) (a:Addr):It :=
 ⟨fun i H=>∃ xs x,SqL K H a xs∧xs[i]? = some x,fun i H x H'=>∃ p y,H p=none∧H'=upd H p (.tup [.int (i:Int),y])∧x = .ref p∧∀ xs,SqL K H a xs→xs[i]? = some y,fun i H=>∃ xs,SqL K H a xs∧xs.length ≤ i⟩
section
variable {X:Cx} {pins:List (Addr × Obj)} {σ:L2.St} {H:Hp} {s:Shared} {h':Heap}
theorem Inv.zks {t':Nat} {e it:Addr} (I:Inv X pins σ H s) (k:∀ b o,b ≠ e→b ≠ it→s.heap.get? b=some o→h'.get? b=some o) (fe:FpOk X pins H e) (ft:FpOk X pins H it):Inv X pins σ H { s with heap:=h',toks:=t' }:=by
 obtain ⟨a0,a1,a2,a3,a4,a5⟩:=fe
 obtain ⟨b0,b1,b2,b3,b4,b5⟩:=ft
 have ne:∀ b u,H b=some u→b ≠ e:=fun b u q z=>by rw [z,a0] at q;cases q
 have nit:∀ b u,H b=some u→b ≠ it:=fun b u q z=>by rw [z,b0] at q;cases q
 refine I.step (g':=s.gens) (d':=s.drawn) (ch:=[e,it]) (fun b hb=>?_) (fun b o _ _ hc q _=>k b o (fun z=>hc (by simp [z])) (fun z=>hc (by simp [z])) q) (fun b o _ _ hc q _=>⟨o.slots,k b o (fun z=>hc (by simp [z])) (fun z=>hc (by simp [z])) q⟩) (fun _ _ _ _ n=>n)
  (fun b o hc q=>⟨o,k b o (fun z=>hc (by simp [z])) (fun z=>hc (by simp [z])) q⟩) (fun _ _ q=>q) (fun _ _ _ q=>q) (fun b ps q=>⟨#[],by rw [q];simp⟩) (fun m hm=>?_) (fun b u q=>?_) I.bare
 ·rcases List.mem_cons.mp hb with z | z
  ·subst z;exact ⟨a3,a1,a4,a5⟩
  ·have z:b=it:=by simpa using z
   subst z;exact ⟨b3,b1,b4,b5⟩
 ·obtain ⟨o,es,ep,ho,r⟩:=hm
  exact ⟨o,es,ep,k _ o (Ne.symm a1) (Ne.symm b1) ho,r⟩
 ·refine (I.hok b u q).stay (fun c v hc q'=>k c v ?_ ?_ q') (fun _ q=>q) fun _ _ q=>q
  ·rcases hc with z | z
   ·rw [z];exact ne b u q
   ·exact ne c _ z
  ·rcases hc with z | z
   ·rw [z];exact nit b u q
   ·exact nit c _ z
end
theorem Inv.zkA {X:Cx} {pins:List (Addr × Obj)} {σ:L2.St} {H:Hp} {s:Shared} {p:Addr} {o:HO} (I:Inv X pins σ H s) (hp:H p=none) (h0:X.s₀.heap.get? p=none) (hL:p ≠ X.env.locals) (hC:∀ x c,X.env.cells.lookup x=some c→c ≠ p) (hP:∀ q ∈ X.pn ++ pins,q.1 ≠ p)
  (hok:HOk X.prog X.w (upd H p o) s.heap):Inv X pins σ (upd H p o) s where
 ok:=I.ok
 os:=I.os
 bare:=I.bare
 base:={
  keep:=I.base.keep
  slot:=I.base.slot
  free:=fun b ob q n hx=>by
   have hb:b ≠ p:=fun z=>by subst z;rw [h0] at q;cases q
   rw [zah hb];exact I.base.free b ob q n hx
  there:=I.base.there
  tups:=fun b xs q=>by have z:=I.base.tups b xs q;rw [zah (zan z hp)];exact z
  frzs:=fun b ob u q=>by have z:=I.base.frzs b ob u q;rw [zah (zan z hp)];exact z
  tbls:=fun b ps q=>by obtain ⟨more,z⟩:=I.base.tbls b ps q;exact ⟨more,by rw [zah (zan z hp)];exact z⟩ }
 loc:=I.loc
 cell:=I.cell
 free:=by rw [zah (Ne.symm hL)];exact I.free
 freeC:=fun x c q=>by rw [zah (hC x c q)];exact I.freeC x c q
 pin:=fun q hq=>by
  obtain ⟨a,b,c⟩:=I.pin q hq
  exact ⟨a,by rw [zah (hP q hq)];exact b,c⟩
 hok:=hok
 len:=I.len
theorem zie {P:Program} {w:World} {K:PySem.W.Frag} {elts:List Expr} {x1:Nat} {tp:Pos} (a e it:Addr) (hne:e ≠ it):Turn P w K (.Tuple elts x1 tp) (Ite K a) [e,it] e (fun i h=>(∃ old,IsEnum h e it (i:Int) old)∧h.IsListIter it a i) where
 mem:=by simp
 obj:=fun i h st b hb=>by
  obtain ⟨⟨old,st1⟩,o,q,c,d⟩:=st
  rcases List.mem_cons.mp hb with z | z
  ·subst z;exact ⟨_,st1,fun v z=>by cases z⟩
  ·have z:b=it:=by simpa using z
   subst z;exact ⟨o,q,fun v z=>by rw [d] at z;cases z⟩
 keep:=fun i h h' st k=>⟨let ⟨old,q⟩:=st.1; ⟨old,k e (by simp) _ q⟩,st.2.at fun o q=>k it (by simp) o q⟩
 item:=by
  intro X hP hw hK hc i pins s σ H E I hf st hg
  subst hP hw hK
  obtain ⟨⟨old,st1⟩,st2⟩:=st
  obtain ⟨xs,x,hq,hx⟩:=hg
  obtain ⟨its,rv,p,hz⟩:=I.list hq
  obtain ⟨u,hu,ru⟩:=rv.get hx
  have fe:=hf e (by simp)
  have ft:=hf it (by simp)
  have hse:e < s.heap.objs.size:=Heap.lt_size st1
  have hsi:it < s.heap.objs.size:=let ⟨_,q,_⟩:=st2;Heap.lt_size q
  refine wpAny_pyNext_enum_item st1 st2 p.isList (x:=u) (by simpa using hu) hne fun h1 e1 i1 t1 z1 k1=>?_
  refine ⟨_,rfl,wpAny_letOwnedTupleGo_enum (s:={ s with heap:=h1,toks:=s.toks + 1 }) e1 fun h2 e2 s2=>?_⟩
  have hp0:H s.heap.objs.size=none:=I.hok.fresh (Nat.le_refl _)
  have k2:∀ b o,b ≠ e→b ≠ it→s.heap.get? b=some o→h2.get? b=some o:=fun b o n1 n2 q=>s2.extBut b o n1 (k1 b o n1 n2 q)
  have t2:h2.get? s.heap.objs.size=some { cls := .type "tuple",data := .seq #[.int (i:Int) s.toks,u] }:=s2.extBut _ _ (Nat.ne_of_gt hse) t1
  have I1:Inv X pins σ H { s with heap:=h2,toks:=s.toks + 1 }:=Inv.zks (t':=s.toks + 1) I k2 fe ft
  have i2:h2.IsListIter it a (i + 1):=i1.extBut s2.extBut (Ne.symm hne)
  have hok:HOk X.prog X.w (upd H s.heap.objs.size (.tup [.int (i:Int),x])) h2:=by
   refine fun b o q=>?_
   by_cases eb:b=s.heap.objs.size
   ·subst eb
    rw [zas] at q
    cases q
    exact ⟨by show 2 ≤ sizeLine;decide,[.int (i:Int) s.toks,u], .cons ⟨_,rfl⟩ (.cons ru .nil),⟨_,t2,rfl,_,rfl⟩⟩
   ·rw [zah eb] at q
    exact (I1.hok b o q).stay (fun c v _ z=>z) (fun c z=>by rw [zah (zan z hp0)];exact z) fun c xs z=>by rw [zah (zan z hp0)];exact z
  have fp:FpOk X pins H s.heap.objs.size:=I.fpOk (Nat.le_refl _) hp0
  have h0:X.s₀.heap.get? s.heap.objs.size=none:=by
   cases q:X.s₀.heap.get? s.heap.objs.size with
   | none=>rfl
   | some ob=>exact absurd (Nat.lt_of_lt_of_le (Heap.lt_size q) I.sz) (Nat.lt_irrefl _)
  have I2:Inv X pins σ (upd H s.heap.objs.size (.tup [.int (i:Int),x])) { s with heap:=h2,toks:=s.toks + 1 }:=Inv.zkA I1 hp0 h0 fp.2.1 fp.2.2.2.2.1 fp.2.2.2.2.2 hok
  refine ⟨.ref s.heap.objs.size,_,I2,rfl,⟨_,x,hp0,rfl,rfl,fun ys hy=>by rw [I.zdz hy hq];exact hx⟩,⟨⟨_,e2⟩,i2⟩,fun b hb=>?_⟩
  rcases List.mem_cons.mp hb with z | z
  ·subst z;rw [zah (Nat.ne_of_lt hse)];exact fe.1
  ·have z:b=it:=by simpa using z
   subst z;rw [zah (Nat.ne_of_lt hsi)];exact ft.1
 done:=by
  intro X hP hw hK hc i pins s σ H E I hf st hg
  subst hP hw hK
  obtain ⟨⟨old,st1⟩,st2⟩:=st
  obtain ⟨xs,hq,hx⟩:=hg
  obtain ⟨its,rv,p,hz⟩:=I.list hq
  obtain ⟨f0,f1,f2,f3,f4,f5⟩:=hf it (by simp)
  have hl:=rv.length
  exact wpAny_pyNext_enum_end (I.ok.hd hc) st1 st2 p.isList (by simp;omega) fun h' eb=>⟨rfl,I.turned (t':=s.toks) (fun b o hb e=>eb b o hb e) f0 f1 f3 f4 f5⟩
 self:=fun _ _ _ _ _ st h=>let ⟨_,q⟩:=st.1;wpAny_pyIter_enum q h
section
variable {X:Cx} {W:WX} {pos:Pos}
theorem zkQ {elts:List Expr} {x1:Nat} {tp p:Pos} {l:Expr} {tl:TE} (hg:Gl X "enumerate") (hm:X.mg "enumerate" = none) (hl:PE X l tl) (hs:starEach [l] X.env=[(false,eval l X.env)]:=by rfl) :
  PI X (.Tuple elts x1 tp) (.Call (.Name "enumerate" p) [l] [] pos) (fun σ H R=>tl σ H fun x H1=>∃ a,x = .ref a∧(∃ xs,SqL X.K H1 a xs)∧R (Ite X.K a) H1):=by
 intro pins s σ H R I h
 refine wpAny_Call_Name_kw (zdn I hg hm boot_enumerate ?_)
 refine PyProof.Rows.callWith_type1 (thn (zdQ hl zgm hs pos pins s σ H (fun vs H1=>match vs with
  | [x]=>∃ a,x=V.ref a∧(∃ xs,SqL X.K H1 a xs)∧R (Ite X.K a) H1
  | _=>False) I h) fun us s1 ⟨vs,H1,I1,r1,q1⟩=>?_) hs rfl
 match vs,q1 with
 | [x],q1 =>
 obtain ⟨a,e1,⟨xs,hq⟩,q⟩:=q1
 obtain ⟨u,rfl,ru⟩:=vals1 r1
 subst e1
 cases ru
 obtain ⟨its,rv,pl,hz⟩:=I1.list hq
 refine call_enumerate_list pl.isList fun h' hE hI hsz hk=>?_
 refine wpAny_pyIter_enum (s:={ s1 with heap:=h' }) hE ?_
 have I2:Inv X pins σ H1 { s1 with heap:=h' }:=I1.kept (t':=s1.toks) hk
 refine ⟨_,[s1.heap.objs.size + 1,s1.heap.objs.size],_,_,H1,rfl,I2,zie a _ _ (Nat.succ_ne_self _),⟨⟨.none,hE⟩,hI⟩,fun b hb=>?_,q⟩
 rcases List.mem_cons.mp hb with z | z
 ·subst z;exact I1.fpOk (Nat.le_succ _) (I1.hok.fresh (Nat.le_succ _))
 ·have z:b=s1.heap.objs.size:=by simpa using z
  subst z;exact I1.fpOk (Nat.le_refl _) (I1.hok.fresh (Nat.le_refl _))
def za3:Nat→List A→List A
 | _,[]=>[]
 | n,x :: xs => .tup [.int (n:Int),x] :: za3 (n + 1) xs
theorem zer:∀ (n:Nat) (xs:List A),(za3 n xs).length=xs.length
 | _,[]=>rfl
 | n,x :: xs=>by simp only [za3,List.length_cons,zer (n + 1) xs]
theorem zgy:∀ (n i:Nat) (xs:List A),(za3 n xs)[i]? = xs[i]?.map fun x => .tup [.int ((n + i:Nat):Int),x]
 | _,_,[]=>by simp [za3]
 | n,0,x :: xs=>by simp [za3]
 | n,i + 1,x :: xs=>by
  simp only [za3,List.getElem?_cons_succ]
  rw [zgy (n + 1) i xs]
  have e:n + 1 + i=n + (i + 1):=by omega
  rw [e]
def enumSrc (a:A) (ds:List A):Src:=⟨za3 0 ds,fun Ω=>zaj Ω a=some ds⟩
@[simp] def zmc (f:Ev→Mo A):Ev→Mo Src:=fun ρ=>mb (f ρ) fun a Ω=>match zaj Ω a with
 | some ds=>some (.ok (enumSrc a ds),Ω)
 | none=>none
theorem zjG {K:PySem.W.Frag} {G:Hp} {ι:List Addr} {p:Addr} {a:A} {ds:List A} (d:Den K G ι (.ref p) a):ItV K G ι (Ite K p) (enumSrc a ds):=by
 have key:∀ G' ι' Ω' H',Ext G ι G' ι'→Wd K G' ι' Ω' H'→zaj Ω' a=some ds→∃ xs,SqL K H' p xs∧DenL K G' ι' xs ds:=fun G' ι' Ω' H' e w h=>by
  obtain ⟨q,xs,h1,h2,h3⟩:=zaF w (d.ext e) h
  cases h1
  exact ⟨xs,h2,h3⟩
 refine ⟨fun G' ι' Ω' H' e w h i hi=>?_,fun G' ι' Ω' H' e w h i hi=>?_,fun G' ι' Ω' H' e w h i x H2 y hy hd=>?_⟩
 ·obtain ⟨xs,h2,h3⟩:=key G' ι' Ω' H' e w h
  have hl:i < xs.length:=by rw [h3.length,← zer 0 ds];exact hi
  exact ⟨xs,xs[i],h2,List.getElem?_eq_getElem hl⟩
 ·obtain ⟨xs,h2,h3⟩:=key G' ι' Ω' H' e w h
  exact ⟨xs,h2,by rw [h3.length,← zer 0 ds];exact hi⟩
 ·obtain ⟨xs,h2,h3⟩:=key G' ι' Ω' H' e w h
  obtain ⟨q,z,e1,e2,e3,e4⟩:=hd
  subst e2 e3
  have hy':(za3 0 ds)[i]? = some y:=hy
  rw [zgy] at hy'
  cases ed:ds[i]? with
  | none=>rw [ed] at hy';cases hy'
  | some d' =>
   rw [ed] at hy'
   cases hy'
   obtain ⟨z',q1,q2⟩:=h3.get ed
   rw [e4 xs h2] at q1
   cases q1
   refine ⟨upd G' q (.tup [.int (i:Int),z]),Ext.new (w.zcM e1) _,w.new e1 _,?_⟩
   simp only [Den]
   exact ⟨q,_,rfl,zas, .cons (by simp only [Den,Nat.zero_add]) (.cons (q2.ext (Ext.new (w.zcM e1) _)) .nil)⟩
theorem zk8 {elts:List Expr} {x1:Nat} {tp p:Pos} {l:Expr} {fe:Ev→Mo A} (hg:Gl X "enumerate") (hm:X.mg "enumerate" = none) (h:VE X W l fe) (hs:starEach [l] X.env=[(false,eval l X.env)]:=by rfl) :
  VI X W (.Tuple elts x1 tp) (.Call (.Name "enumerate" p) [l] [] pos) (zmc fe):=by
 obtain ⟨t,p,s⟩:=h
 refine ⟨_,zkQ hg hm p hs,fun G ι Ω H σ ρ R w r h=>?_⟩
 refine s G ι Ω H σ ρ _ w r (Post.mb h fun a Ω1 v H1 G1 ι1 x1 w1 d1 h1=>?_)
 cases e:zaj Ω1 a with
 | none=>simp only [e] at h1;exact False.elim h1
 | some ds =>
  simp only [e] at h1
  obtain ⟨q,xs,h2,h3,h4⟩:=zaF w1 d1 e
  subst h2
  exact ⟨q,rfl,⟨xs,h3⟩,h1 _ H1 G1 ι1 (Ext.refl _ _) w1 (zjG d1)⟩
theorem zjk {st:Stmt}:VS X W st (fun _ _=>none):=⟨_,zja,fun _ _ _ _ _ _ _ _ _ h=>h.elim⟩
theorem zhD {st:List Stmt}:VSs X W st (fun _ _=>none):=⟨_,zhr,fun _ _ _ _ _ _ _ _ _ h=>h.elim⟩
end
end V2
namespace V2
open PySem PySem.Spec PyProof.Rows L2
def lcEv (n:Nat) (js:List Nat) (ρ:Ev):Ev:=List.replicate n none ++ js.map (fun j=>(ρ[j]?).join)
def VIf (X:Cx) (W:WX) (ifs:List Expr) (f:Ev→Mo Bool):Prop:=∃ t,PIf X ifs t∧Sim X.K relB W t f
abbrev yesM:Ev→Mo Bool:=fun _=>ret true
theorem zca {X:Cx} {W:WX}:VIf X W [] yesM:=⟨_,zlb,fun _ _ _ _ _ _ _ w _ q=>zaw w rfl q⟩
open Classical in
noncomputable def fLC (ok:Sto→Prop) (g:A→MS) (c:Ev→Mo Bool) (e:Ev→Mo A) (n:Nat):List A→Ev→Sto→Option (Ev × Sto)
 | [],ρ,Ω=>if ok Ω then some (ρ,Ω) else none
 | x :: xs,ρ,Ω=>if ok Ω then (match g x ρ Ω with
  | some (.nx,ρ1,Ω1)=>(match c ρ1 Ω1 with
   | some (.ok true,Ω2)=>(match e ρ1 Ω2 with
    | some (.ok y,Ω3)=>(match Ω3[n]? with
     | some (.lst ys)=>if ys.length < sizeLine then fLC ok g c e n xs ρ1 (Ω3.set n (.lst (ys ++ [y]))) else none
     | _=>none)
    | _=>none)
   | some (.ok false,Ω2)=>fLC ok g c e n xs ρ1 Ω2
   | _=>none)
  | _=>none) else none
open Classical in
noncomputable def zlc (cf:Bool) (Ω1:Sto) (r:Option (Ev × Sto)):Option (Rs A × Sto):=match r with
 | some (_,Ω')=>(match Ω'[Ω1.length]? with
  | some (.lst ys)=>if cf then some (.ok (.cel Ω1.length),Ω') else if Ω'.take Ω1.length=Ω1∧ClL Ω1.length ys then some (.ok (.lst ys),Ω1) else some (.ok (.lst ys),Ω'.set Ω1.length .dead)
  | _=>none)
 | none=>none
noncomputable def vLC (cf:Bool) (n:Nat) (js:List Nat) (fi:Ev→Mo Src) (g:A→MS) (c:Ev→Mo Bool) (e:Ev→Mo A):Ev→Mo A:=fun ρ=>mb (fi ρ) fun S Ω1=>zlc cf Ω1 (fLC S.ok g c e Ω1.length S.ds (lcEv n js ρ) (Ω1 ++ [.lst []]))
theorem zmD {ok:Sto→Prop} {g:A→MS} {c:Ev→Mo Bool} {e:Ev→Mo A} {n:Nat} {xs:List A} {ρ:Ev} {Ω:Sto} {r:Ev × Sto} (h:fLC ok g c e n xs ρ Ω=some r):ok Ω:=by
 cases xs with
 | nil=>unfold fLC at h;by_cases hp:ok Ω;exact hp;rw [if_neg hp] at h;cases h
 | cons=>unfold fLC at h;by_cases hp:ok Ω;exact hp;rw [if_neg hp] at h;cases h
theorem zli {K:PySem.W.Frag} {G:Hp} {ι:List Addr} {σ:L2.St} {ρ:Ev} (ls:List Str) (js:List Nat) (r:EnvR K G ι σ ρ):EnvR K G ι (lcSt ls js σ) (lcEv ls.length js ρ):=by
 unfold lcSt lcEv
 refine ⟨by simp,fun i d h=>?_⟩
 by_cases hi:i < ls.length
 ·rw [List.getElem?_append_left (by simpa using hi)] at h
  rw [List.getElem?_replicate,if_pos hi] at h
  cases h
 ·rw [List.getElem?_append_right (by simpa using Nat.le_of_not_lt hi),List.length_replicate,List.getElem?_map] at h
  cases e:js[i - ls.length]? with
  | none=>rw [e] at h;cases h
  | some j =>
   rw [e] at h
   have h':(ρ[j]?).join=some d:=Option.some.inj h
   obtain ⟨v,q1,q2⟩:=r.2 j d (join_some h')
   refine ⟨v,?_,q2⟩
   rw [List.getElem?_append_right (by simpa using Nat.le_of_not_lt hi),List.length_map,List.getElem?_map,e]
   show some (σ[j]?).join=_
   rw [q1];rfl
section
variable {K:PySem.W.Frag} {W:WX}
theorem zmq {ls:List Str} {js:List Nat} {wi:TI} {tg:TG} {tc:TT} {te:TE} {fi:Ev→Mo Src} {g:A→MS} {c:Ev→Mo Bool} {e:Ev→Mo A} {cf:Bool} (W0:WX) (hi:Sim K (relI K) W wi fi) (hg:SimG K W0 tg g) (hc:Sim K relB W0 tc c) (he:Sim K (Den K) W0 te e) :
  Sim K (Den K) W (tLC ls js wi tg tc te) (vLC cf ls.length js fi g c e):=by
 intro G ι Ω H σ ρ Q w r h
 refine hi G ι Ω H σ ρ _ w r (Post.mb h fun S Ω1 J H1 G1 ι1 x1 w1 j1 h1=>?_)
 intro D hD
 unfold zlc at h1
 cases er:fLC S.ok g c e Ω1.length S.ds (lcEv ls.length js ρ) (Ω1 ++ [.lst []]) with
 | none=>rw [er] at h1;exact False.elim h1
 | some rr =>
 obtain ⟨ρe,Ωe⟩:=rr
 rw [er] at h1
 simp only at h1
 have hw0:Wd K G1 (ι1 ++ [D]) (Ω1 ++ [.lst []]) (upd H1 D (.lst [])):=w1.cell hD ⟨w1.zcM hD,[],zas, .nil⟩
 have r0:EnvR K G1 (ι1 ++ [D]) (lcSt ls js σ) (lcEv ls.length js ρ):=zli ls js (r.ext (x1.trans (Ext.cell D)))
 have hDk:(ι1 ++ [D])[Ω1.length]? = some D:=by rw [← w1.len];simp
 refine ⟨fun i m σ' H'=>m=S.ds.length - i∧i ≤ S.ds.length∧∃ G' ι' Ω' ρ',Ext G1 (ι1 ++ [D]) G' ι'∧Wd K G' ι' Ω' H'∧EnvR K G' ι' σ' ρ'∧fLC S.ok g c e Ω1.length (S.ds.drop i) ρ' Ω'=some (ρe,Ωe),
  ⟨_,rfl,Nat.zero_le _,G1,_,_,_,Ext.refl _ _,hw0,r0,by simpa using er⟩,?_⟩
 rintro i m σ' H' ⟨rfl,hil,G',ι',Ω',ρ',e',w',r',h'⟩
 have hok:=zmD h'
 have eJ:Ext G1 ι1 G' ι':=(Ext.cell D).trans e'
 by_cases hlt:i < S.ds.length
 ·right
  refine ⟨j1.go G' ι' Ω' H' eJ w' hok i hlt,fun σ2 H2=>∃ G2 ι2 Ω2 ρ2,Ext G1 (ι1 ++ [D]) G2 ι2∧Wd K G2 ι2 Ω2 H2∧EnvR K G2 ι2 σ2 ρ2∧fLC S.ok g c e Ω1.length (S.ds.drop (i + 1)) ρ2 Ω2=some (ρe,Ωe),fun σ2 H2 n=>?_,fun x H2 y=>?_⟩
  ·exact ⟨S.ds.length - (i + 1),by omega,rfl,hlt,n⟩
  ·obtain ⟨G2,e2,w2,d2⟩:=j1.yld G' ι' Ω' H' eJ w' hok i x H2 S.ds[i] (List.getElem?_eq_getElem hlt) y
   rw [List.drop_eq_getElem_cons hlt] at h'
   unfold fLC at h'
   rw [if_pos hok] at h'
   refine hg G2 ι' Ω' H2 σ' ρ' x S.ds[i] ⟨_,fun _ _=>False,fun _ _=>False,fun _ _=>False⟩ w2 (r'.ext e2) d2 ?_
   revert h'
   generalize g S.ds[i] ρ' Ω'=q
   intro h'
   split at h'
   ·rename_i ρ3 Ω3
    intro σ3 H3 G3 ι3 x3 w3 r3
    refine hc G3 ι3 Ω3 H3 σ3 ρ3 _ w3 r3 ?_
    revert h'
    generalize c ρ3 Ω3=q2
    intro h'
    split at h'
    ·rename_i Ω4
     intro b H4 G4 ι4 x4 w4 hb
     cases (show b=true from hb)
     rw [if_pos rfl]
     refine he G4 ι4 Ω4 H4 σ3 ρ3 _ w4 (r3.ext x4) ?_
     revert h'
     generalize e ρ3 Ω4=q3
     intro h'
     split at h'
     ·rename_i z Ω5
      intro v H5 G5 ι5 x5 w5 d5
      split at h'
      ·rename_i ys ey
       split at h'
       ·rename_i hl
        have eD:=(((e'.trans e2).trans x3).trans x4).trans x5
        have hk:=eD.pre _ _ hDk
        obtain ⟨gg,xs,q1,q2⟩:=w5.cel _ _ D ey hk
        refine ⟨xs,q1,by rw [q2.length];exact hl,G5,ι5,_,ρ3,eD,w5.put (c := .lst (ys ++ [z])) hk gg ⟨gg,_,zas,q2.append (.cons d5 .nil)⟩,(r3.ext x4).ext x5,h'⟩
       ·cases h'
      ·cases h'
     ·cases h'
    ·rename_i Ω4
     intro b H4 G4 ι4 x4 w4 hb
     cases (show b=false from hb)
     rw [if_neg (by simp)]
     exact ⟨G4,ι4,Ω4,ρ3,((e'.trans e2).trans x3).trans x4,w4,r3.ext x4,h'⟩
    ·cases h'
   ·cases h'
 ·have hie:i=S.ds.length:=by omega
  subst hie
  left
  refine ⟨j1.stop G' ι' Ω' H' eJ w' hok _ (Nat.le_refl _),?_⟩
  rw [List.drop_length] at h'
  unfold fLC at h'
  rw [if_pos hok] at h'
  cases h'
  split at h1
  ·rename_i ys ey
   have hk:=e'.pre _ _ hDk
   obtain ⟨gg,xs,q1,q2⟩:=w'.cel _ _ D ey hk
   split at h1
   ·exact h1 _ H' G' ι' eJ w' (by simp only [Den];exact ⟨D,rfl,hk⟩)
   ·have wf:=w'.freeze hk gg q1
    split at h1
    ·rename_i hcut
     have eC:Ext G1 ι1 (upd G' D (.lst xs)) ι':=eJ.trans (Ext.new gg _)
     have wc:=w1.cut wf eC (by rw [List.take_set_of_le (Nat.le_refl _)];exact hcut.1)
     refine h1 _ H' _ ι1 ⟨eC.same,fun _ _ q=>q⟩ wc ?_
     simp only [Den]
     exact ⟨D,xs,rfl,zas,(q2.ext (Ext.new gg _)).cut eC.cut (by rw [w1.len];exact hcut.2)⟩
    ·refine h1 _ H' _ ι' (eJ.trans (Ext.new gg _)) wf ?_
     simp only [Den]
     exact ⟨D,xs,rfl,zas,q2.ext (Ext.new gg _)⟩
  ·exact False.elim h1
end
def tCan {α β:Type} (K:PySem.W.Frag) (rel:Rl α β) (W:WX) (f:Ev→Mo α):L2.St→Hp→(β→Hp→Prop)→Prop:=fun σ H Q=>∃ G ι Ω ρ,Wd K G ι Ω H∧EnvR K G ι σ ρ∧Post K rel W G ι σ Q (f ρ Ω)
def zmd (K:PySem.W.Frag) (W:WX) (g:A→MS):TG:=fun v σ H Q=>∃ G ι Ω ρ a D,Wd K G ι Ω H∧EnvR K G ι σ ρ∧Den K G ι v a∧zbi K W G ι D (g a ρ Ω)∧D.nx=Q
theorem zh3 {α β:Type} {K:PySem.W.Frag} {rel:Rl α β} {W:WX} {f:Ev→Mo α}:Sim K rel W (tCan K rel W f) f:=fun G ι Ω H σ ρ Q w r h=>⟨G,ι,Ω,ρ,w,r,h⟩
theorem ziR {K:PySem.W.Frag} {W:WX} {g:A→MS}:SimG K W (zmd K W g) g:=fun G ι Ω H σ ρ v a D w r d h=>⟨G,ι,Ω,ρ,a,D,w,r,d,h,rfl⟩
theorem VE.can {X:Cx} {W:WX} {e:Expr} {f:Ev→Mo A} (h:VE X W e f):PE X e (tCan X.K (Den X.K) W f):=by
 obtain ⟨t,p,s⟩:=h
 exact fun pins sh σ H Q I ⟨G,ι,Ω,ρ,w,r,q⟩=>p pins sh σ H Q I (s G ι Ω H σ ρ Q w r q)
theorem VIf.can {X:Cx} {W:WX} {ifs:List Expr} {f:Ev→Mo Bool} (h:VIf X W ifs f):PIf X ifs (tCan X.K relB W f):=by
 obtain ⟨t,p,s⟩:=h
 exact fun pins sh σ H Q I ⟨G,ι,Ω,ρ,w,r,q⟩=>p pins sh σ H Q I (s G ι Ω H σ ρ Q w r q)
theorem VG.can {X:Cx} {W:WX} {tg:Expr} {g:A→MS} (h:VG X W tg g):PG X tg (zmd X.K W g):=by
 obtain ⟨t,p,s⟩:=h
 exact fun pins sh σ H v u Q I rv ⟨G,ι,Ω,ρ,a,D,w,r,d,q,e⟩=>p pins sh σ H v u Q I rv (e ▸ s G ι Ω H σ ρ v a D w r d q)
abbrev noW:WX:=fun _ _ _ _=>False
theorem zeE {X:Cx} {W:WX} {elt tg iter:Expr} {ifs:List Expr} {scope:Scope} {pos:Pos} {fi:Ev→Mo Src} {g:A→MS} {c:Ev→Mo Bool} {e:Ev→Mo A} (cf:Bool) (ls:List Str) (js:List Nat) (hc:X.calm=true) (L:LcOk X scope ls js) (hi:VI X W tg iter fi)
  (hb:∀ cl C s H fp,VG (lcCx X scope ls js cl C s H fp) noW tg g∧VIf (lcCx X scope ls js cl C s H fp) noW ifs c∧VE (lcCx X scope ls js cl C s H fp) noW elt e)
  (hs:∀ x,foldedSetIterable iter X.env x=pure x:=by intro _;rfl):VE X W (.ListComp elt [⟨tg,iter,ifs,0⟩] scope pos) (vLC cf ls.length js fi g c e):=by
 obtain ⟨t1,p1,s1⟩:=hi
 exact ⟨_,znD hc L p1 (fun cl C s H fp=>⟨(hb cl C s H fp).1.can,(hb cl C s H fp).2.1.can,(hb cl C s H fp).2.2.can⟩) hs,zmq _ s1 ziR zh3 zh3⟩
end V2
namespace V2
open PySem PySem.Spec PyProof.Rows L2
section
variable {X:Cx} {W:WX}
end
end V2
namespace M
open PySem V2
noncomputable def zee:MS :=
 (sSeq (sAsg (vOp (gMod) (vOp (gMul) (vOp (gAdd false) (vVar 0) (cI 1)) (vOp (gAdd false) (cI 48271) (vOp (gMul) (cI 118) (vVar 1)))) (cI 2147483629)) (gN 2))
  (sRet (vOp (gMod) (vOp (gAdd false) (vOp (gAdd false) (vOp (gMul) (vOp (gDiv) (vVar 2) (cI 977)) (cI 16807)) (vOp (gMul) (vVar 2) (vOp (gAdd false) (vOp (gMul) (vVar 1) (vVar 1)) (cI 7)))) (vVar 1)) (cI 2147483587))))
noncomputable def zaA:List A→Mo A:=fnF 3 zee
noncomputable def zcO:MS :=
 (sSeq (sAsg (cI 0) (gN 2))
  (sSeq (sIf (zbE (vOp gLt (vVar 1) (vCl gLen (zac (vVar 0) a0))))
   (sAsg (vOp (gMod) (vOp gIx (vVar 0) (vVar 1)) (cI 2147483647)) (gN 2))
   sNx)
  (sRet (vCl (zau 2 zaA) (zac (vVar 2) (zac (vOp (gAdd false) (vVar 1) (cI 101)) a0))))))
noncomputable def zaN:List A→Mo A:=fnF 3 zcO
end M
namespace M
open PySem V2
end M
namespace M
open PySem V2
end M
namespace V2
open PySem PySem.Spec PyProof.Rows L2
section
variable {K:PySem.W.Frag} {G:Hp} {ι:List Addr}
end
section
variable {X:Cx} {W:WX} {o i e:Expr} {pos:Pos} {fo fi fe:Ev→Mo A}
end
end V2
namespace V2
open PySem PySem.Spec PyProof.Rows L2
section
variable {X:Cx} {W:WX} {x:Str} {e:Expr} {es:List Expr} {np cpos pos:Pos} {fs:Ev→Mo (List A)}
end
def VS0 (X:Cx) (W:WX) (st:Stmt) (f:MS):Prop:=∃ t,PS0 X st t∧SimS X.K W t f
def VSs0 (X:Cx) (W:WX) (st:List Stmt) (f:MS):Prop:=∃ t,PSs0 X st t∧SimS X.K W t f
section
variable {X:Cx} {W:WX} {st:Stmt} {rest:List Stmt} {f g:MS}
theorem VS.v0 (h:VS X W st f):VS0 X W st f:=let ⟨t,p,s⟩:=h; ⟨t,p.ps0,s⟩
theorem VSs.v0 (h:VSs X W rest f):VSs0 X W rest f:=let ⟨t,p,s⟩:=h; ⟨t,p.ps0,s⟩
end
section
variable {P:Program} {w:World} {K:PySem.W.Frag} {mg:Str→Option Value} {base:Heap}
theorem DefN.of0 {x:Str} {st:Stmt} {N ps:List Str} {k:Nat} {b:MS} (h:HasFn K mg x st) (S:zao N ps (zaa st))
  (bind:∀ (kV doc pm:Value) (an:Option Addr) (cdv ct:Value) (us:List Value),us.length=ps.length→bindArgs (PySem.W.fnOf x x (zap st) (zag st) (zaa st) .none kV doc pm an cdv ct) ⟨us,[]⟩ = pure (ps.zip us))
  (hbody:∀ (f:Addr) (cdv:Value) (A:Around) (outer:List Env) (s:Shared) (H:Hp) (E:XK),Room k (A.deeper (envOfC x (zaa st) s.heap.objs.size f cdv)) →
   VSs0 (cxOf CX0 P w K mg base N x (zaa st) f cdv A outer s H E).nox noW (zag st) b):DefN P w K mg base x (k + 1) ps (fnF N.length b):=by
 refine Def.of0 h S bind (fun vs H Q E h=>h.1) fun f cdv A outer s H vs Q E hr hsp=>?_
 obtain ⟨t,p,q⟩:=hbody f cdv A outer s H E hr
 exact ⟨t,p,zen (E:=fun _ _ _=>False) q hsp⟩
end
end V2
namespace V2
open PySem PySem.Spec PyProof.Rows L2
structure XTab (K:PySem.W.Frag) (rs ns:List Str):Prop where
 xc:∀ n ∈ ns,∀ D,PySem.W.nsIn K mainGlobals n=some (some (.ref D))→XC K D
 sub:∀ n ∈ rs,∀ m ∈ ns,∀ D C,PySem.W.nsIn K mainGlobals n=some (some (.ref D))→PySem.W.nsIn K mainGlobals m=some (some (.ref C))→PySem.W.subIn K (.ref D) (.ref C)=some (n == m || m == ("RankError" : Str))
 ve:∀ n ∈ rs,∀ D,PySem.W.nsIn K mainGlobals n=some (some (.ref D))→PySem.W.subIn K (.ref D) (.type "ValueError")=some true
 rn:∀ n ∈ rs,n ∈ ns
def xtab (rs ns:List Str) (n m:Str):Option Bool:=if n ∈ rs∧m ∈ ns then some (n == m || m == ("RankError" : Str)) else none
theorem XTab.own {K:PySem.W.Frag} {rs ns:List Str} (T:XTab K rs ns) (n m:Str) (b:Bool) (D C:Addr) (h:xtab rs ns n m=some b) (hn:PySem.W.nsIn K mainGlobals n=some (some (.ref D))) (hm:PySem.W.nsIn K mainGlobals m=some (some (.ref C))):PySem.W.kitOne K (.ref D) (.ref C)=some b:=by
 unfold xtab at h
 split at h
 ·rename_i q
  cases h
  exact zkJ (T.xc _ (T.rn _ q.1) _ hn) (T.xc _ q.2 _ hm) (T.sub _ q.1 _ q.2 _ _ hn hm)
 ·cases h
section
variable {K:PySem.W.Frag} {rs ns:List Str} {G:Hp} {ι:List Addr}
end
end V2
namespace V2
open PySem PySem.Spec PyProof.Rows L2
end V2
namespace V2
open PySem PySem.Spec PyProof.Rows L2
section
variable {X:Cx} {W:WX} {x y:Str} {e:Expr} {es:List Expr} {np cpos pos hpos:Pos} {fs:Ev→Mo (List A)}
end
end V2
namespace L2
open PySem PySem.Spec PyProof.Rows
end L2
namespace V2
end V2
namespace L2
open PySem PySem.Spec PyProof.Rows
theorem Top1.nox {X:Cx} (t:Top1 X):Top1 X.nox:=⟨t.1,t.2,t.3⟩
end L2
namespace M
open PySem V2
end M
namespace KS
open PySem PySem.W PyProof.Rows
def go {α:Type} (lt:Nat→Nat→Bool):KasT α→α
 | .ret a=>a
 | .ask i j k=>go lt (k (lt i j))
theorem zdZ {α β:Type} (lt:Nat→Nat→Bool) (f:α→KasT β):∀ t:KasT α,go lt (t.bind f)=go lt (f (go lt t))
 | .ret _=>rfl
 | .ask i j k=>by
  show go lt ((k (lt i j)).bind f)=_
  rw [zdZ lt f (k (lt i j))];rfl
section
variable (r:Nat→Int)
abbrev ltR:Nat→Nat→Bool:=fun i j=>decide (r i < r j)
def Ky (p:Array Nat) (i:Nat):Int:=r (p.getD i 0)
def Up (p:Array Nat) (k:Nat):Prop:=∀ i j,i ≤ j→j < k→Ky r p i ≤ Ky r p j
def Dn (p:Array Nat) (k:Nat):Prop:=∀ i j,i ≤ j→j < k→Ky r p j ≤ Ky r p i
variable {r}
theorem getD_eq {p q:Array Nat} {i j:Nat} (h:p[i]? = q[j]?):p.getD i 0=q.getD j 0:=by
 simp [Array.getD_eq_getD_getElem?,h]
theorem zfH {p q:Array Nat} {i j:Nat} (h:Ky r p i < Ky r q j):ltR r (p.getD i 0) (q.getD j 0)=true:=decide_eq_true h
theorem zhS {p q:Array Nat} {i j:Nat} (h:¬ Ky r p i < Ky r q j):ltR r (p.getD i 0) (q.getD j 0)=false:=decide_eq_false h
theorem zin {p:Array Nat} {i j:Nat} (hj:j ≤ p.size) (k:Nat):Ky r (kas_rev p i j) k=if i ≤ k∧k < j then Ky r p (i + j - 1 - k) else Ky r p k:=by
 have h:=getElem?_mirror_all (i:=i) hj k
 unfold Ky kas_rev
 split
 ·rename_i c;rw [if_pos c] at h;rw [getD_eq h]
 ·rename_i c;rw [if_neg c] at h;rw [getD_eq h]
theorem zdJ {p:Array Nat} {i j:Nat} (hj:j ≤ p.size) (e:∀ k,i ≤ k→k < j→Ky r p k=Ky r p (j - 1)) (k:Nat):Ky r (kas_rev p i j) k=Ky r p k:=by
 rw [zin hj]
 split
 ·rename_i c;rw [e _ (by omega) (by omega),e k c.1 c.2]
 ·rfl
theorem zcg (p:Array Nat) (i j:Nat):(kas_rev p i j).size=p.size:=mirror_size _ _ _ _
theorem zdx (p:Array Nat) (i j:Nat):(kas_rev p i j).Perm p:=mirror_perm _ _ _ _
theorem zlw {p:Array Nat} {n:Nat} (h1:1 ≤ n) (h:Up r p n) (hn:Ky r p (n - 1) ≤ Ky r p n):Up r p (n + 1):=by
 intro i j hij hj
 by_cases e:j=n
 ·subst e
  by_cases e2:i=j
  ·subst e2;exact Int.le_refl _
  ·exact Int.le_trans (h i (j - 1) (by omega) (by omega)) hn
 ·exact h i j hij (by omega)
theorem zeo {p:Array Nat} {n:Nat} (h1:1 ≤ n) (h:Dn r p n) (hn:Ky r p n ≤ Ky r p (n - 1)):Dn r p (n + 1):=by
 intro i j hij hj
 by_cases e:j=n
 ·subst e
  by_cases e2:i=j
  ·subst e2;exact Int.le_refl _
  ·exact Int.le_trans hn (h i (j - 1) (by omega) (by omega))
 ·exact h i j hij (by omega)
theorem asc {p:Array Nat}:∀ (f n:Nat),1 ≤ n→Up r p n→∃ m,go (ltR r) (kas_asc p f n)=m∧n ≤ m∧m ≤ n + f∧Up r p m∧(m < n + f→Ky r p m < Ky r p (m - 1))
 | 0,n,_,h=>⟨n,rfl,Nat.le_refl _,Nat.le_refl _,h,fun z=>by omega⟩
 | f + 1,n,h1,h=>by
  by_cases c:Ky r p n < Ky r p (n - 1)
  ·refine ⟨n,?_,Nat.le_refl _,by omega,h,fun _=>c⟩
   have c':=zfH c
   simp only [kas_asc,go,c',if_true]
  ·obtain ⟨m,e,a,b,u,l⟩:=asc f (n + 1) (by omega) (zlw h1 h (by omega))
   refine ⟨m,?_,by omega,by omega,u,fun z=>l (by omega)⟩
   rw [← e]
   have c':=zhS c
   simp only [kas_asc,go,c',Bool.false_eq_true,if_false]
theorem desc:∀ (f:Nat) (p:Array Nat) (n q:Nat),q + 1 ≤ n→n + f ≤ p.size→Dn r p n→(∀ k,n - (q + 1) ≤ k→k < n→Ky r p k=Ky r p (n - 1)) →
  ∃ p' m q',go (ltR r) (kas_desc f p n q)=(p',m,q')∧n ≤ m∧m ≤ n + f∧q' + 1 ≤ m∧p'.size=p.size∧p'.Perm p∧(∀ k,Ky r p' k=Ky r p k)∧Dn r p' m∧(∀ k,m - (q' + 1) ≤ k→k < m→Ky r p' k=Ky r p' (m - 1))
 | 0,p,n,q,hq,_,hd,he=>⟨p,n,q,rfl,Nat.le_refl _,Nat.le_refl _,hq,rfl, .refl _,fun _=>rfl,hd,he⟩
 | f + 1,p,n,q,hq,hz,hd,he=>by
  by_cases c:Ky r p n < Ky r p (n - 1)
  ·have c':=zfH c
   have hd1:Dn r p (n + 1):=zeo (by omega) hd (by omega)
   by_cases q0:q > 0
   ·have ek:∀ k,Ky r (kas_rev p (n - (q + 1)) n) k=Ky r p k:=zdJ (by omega) he
    have hd2:Dn r (kas_rev p (n - (q + 1)) n) (n + 1):=fun i j a b=>by rw [ek,ek];exact hd1 i j a b
    obtain ⟨p',m,q',e,a1,a2,a3,a4,a5,a6,a7,a8⟩:=desc f (kas_rev p (n - (q + 1)) n) (n + 1) 0 (by omega) (by rw [zcg];omega) hd2 (fun k k1 k2=>by
     have:k=n + 1 - 1:=by omega
     rw [this])
    refine ⟨p',m,q',?_,by omega,by omega,a3,by rw [a4,zcg],a5.trans (zdx _ _ _),fun k=>by rw [a6,ek],a7,a8⟩
    rw [← e]
    simp only [kas_desc,go,c',if_true,q0]
   ·obtain ⟨p',m,q',e,a1,a2,a3,a4,a5,a6,a7,a8⟩:=desc f p (n + 1) 0 (by omega) (by omega) hd1 (fun k k1 k2=>by
     have:k=n + 1 - 1:=by omega
     rw [this])
    refine ⟨p',m,q',?_,by omega,by omega,a3,a4,a5,a6,a7,a8⟩
    rw [← e]
    simp only [kas_desc,go,c',if_true,q0,if_false]
  ·have c':=zhS c
   by_cases d:Ky r p (n - 1) < Ky r p n
   ·have d':=zfH d
    refine ⟨p,n,q,?_,Nat.le_refl _,by omega,hq,rfl, .refl _,fun _=>rfl,hd,he⟩
    simp only [kas_desc,go,c',d',Bool.false_eq_true,if_true,if_false]
   ·have d':=zhS d
    have eq:Ky r p n=Ky r p (n - 1):=by omega
    obtain ⟨p',m,q',e,a1,a2,a3,a4,a5,a6,a7,a8⟩:=desc f p (n + 1) (q + 1) (by omega) (by omega) (zeo (by omega) hd (by omega)) (fun k k1 k2=>by
     rw [show n + 1 - 1=n by omega]
     by_cases z:k=n
     ·rw [z]
     ·rw [he k (by omega) (by omega),eq])
    refine ⟨p',m,q',?_,by omega,by omega,a3,a4,a5,a6,a7,a8⟩
    rw [← e]
    simp only [kas_desc,go,c',d',Bool.false_eq_true,if_false]
theorem ziq {p:Array Nat} {n:Nat} (hn:n ≤ p.size) (h:Dn r p n):Up r (kas_rev p 0 n) n:=by
 intro i j hij hj
 rw [zin hn,zin hn,if_pos ⟨by omega,by omega⟩,if_pos ⟨by omega,hj⟩]
 exact h _ _ (by omega) (by omega)
theorem tail3 {p:Array Nat} {n nrem:Nat} (h1:1 ≤ n) (hn:n ≤ nrem) (hz:nrem ≤ p.size) (h:Dn r p n):∃ m p',go (ltR r) (kas_tail3 n nrem p)=(m,p')∧1 ≤ m∧m ≤ nrem∧p'.size=p.size∧p'.Perm p∧Up r p' m:=by
 obtain ⟨m,e,a,b,u,_⟩:=asc (r:=r) (nrem - n) n h1 (ziq (by omega) h)
 refine ⟨m,kas_rev p 0 n,?_,by omega,by omega,zcg _ _ _,zdx _ _ _,u⟩
 unfold kas_tail3
 rw [zdZ,e];rfl
theorem descPart {p:Array Nat} {n nrem:Nat} (h1:1 ≤ n) (hn:n + 1 ≤ nrem) (hz:nrem ≤ p.size) (h:Dn r p (n + 1)):∃ m p',go (ltR r) (kas_descPart n nrem p)=(m,p')∧1 ≤ m∧m ≤ nrem∧p'.size=p.size∧p'.Perm p∧Up r p' m:=by
 obtain ⟨p1,m1,q1,e,a1,a2,a3,a4,a5,a6,a7,a8⟩:=desc (r:=r) (nrem - (n + 1)) p (n + 1) 0 (by omega) (by omega) h (fun k k1 k2=>by
  have:k=n + 1 - 1:=by omega
  rw [this])
 by_cases q0:q1 > 0
 ·have ek:∀ k,Ky r (kas_rev p1 (m1 - (q1 + 1)) m1) k=Ky r p1 k:=zdJ (by omega) a8
  obtain ⟨m,p',e2,b1,b2,b3,b4,b5⟩:=tail3 (p:=kas_rev p1 (m1 - (q1 + 1)) m1) (n:=m1) (nrem:=nrem) (r:=r) (by omega) (by omega) (by rw [zcg];omega) (fun i j x y=>by rw [ek,ek];exact a7 i j x y)
  refine ⟨m,p',?_,b1,b2,by rw [b3,zcg,a4],b4.trans ((zdx _ _ _).trans a5),b5⟩
  unfold kas_descPart
  rw [zdZ,e]
  simp only [q0,if_true]
  exact e2
 ·obtain ⟨m,p',e2,b1,b2,b3,b4,b5⟩:=tail3 (p:=p1) (n:=m1) (nrem:=nrem) (r:=r) (by omega) (by omega) (by omega) a7
  refine ⟨m,p',?_,b1,b2,by rw [b3,a4],b4.trans a5,b5⟩
  unfold kas_descPart
  rw [zdZ,e]
  simp only [q0,if_false]
  exact e2
theorem count {p:Array Nat} {nrem:Nat} (h1:1 ≤ nrem) (hz:nrem ≤ p.size):∃ m p',go (ltR r) (kas_count nrem p)=(m,p')∧1 ≤ m∧m ≤ nrem∧p'.size=p.size∧p'.Perm p∧Up r p' m:=by
 obtain ⟨n,e,a,b,u,l⟩:=asc (r:=r) (p:=p) (nrem - 1) 1 (Nat.le_refl _) (fun i j x y=>by
  have:i=j:=by omega
  rw [this];exact Int.le_refl _)
 unfold kas_count
 rw [zdZ,e]
 by_cases c1:n=nrem
 ·subst c1
  refine ⟨n,p,by simp [go],a,Nat.le_refl _,rfl, .refl _,u⟩
 ·have c1':(n == nrem)=false:=by simpa using c1
  have lt:=l (by omega)
  simp only [c1',Bool.false_eq_true,if_false]
  by_cases c2:n > 1
  ·simp only [c2,if_true,go]
   by_cases c3:Ky r p 0 < Ky r p (n - 1)
   ·have c3':=zfH c3
    simp only [c3',if_true,go]
    exact ⟨n,p,rfl,a,by omega,rfl, .refl _,u⟩
   ·have c3':=zhS c3
    simp only [c3',Bool.false_eq_true,if_false]
    have eqs:∀ k,k < n→Ky r p k=Ky r p (n - 1):=fun k hk=>by
     have x:=u 0 k (by omega) hk
     have y:=u k (n - 1) (by omega) (by omega)
     omega
    have ek:∀ k,Ky r (kas_rev p 0 n) k=Ky r p k:=zdJ (by omega) fun k _ hk=>eqs k hk
    obtain ⟨m,p',e2,b1,b2,b3,b4,b5⟩:=descPart (r:=r) (p:=kas_rev p 0 n) (n:=n) (nrem:=nrem) (by omega) (by omega) (by rw [zcg];omega) (zeo (by omega) (fun i j x y=>by rw [ek,ek,eqs i (by omega),eqs j y];exact Int.le_refl _) (by rw [ek,ek];omega))
    exact ⟨m,p',e2,b1,b2,by rw [b3,zcg],b4.trans (zdx _ _ _),b5⟩
  ·simp only [c2,if_false]
   have n1:n=1:=by omega
   subst n1
   exact descPart (Nat.le_refl _) (by omega) hz (zeo (Nat.le_refl _) (fun i j x y=>by
    have:i=j:=by omega
    rw [this];exact Int.le_refl _) (by omega))
theorem place {p:Array Nat} {k:Nat} (hu:Up r p k):∀ (f l t:Nat),l ≤ t→t ≤ k→t - l ≤ f→(∀ i,i < l→Ky r p i ≤ Ky r p k)→(∀ i,t ≤ i→i < k→Ky r p k < Ky r p i) →
  ∃ m,go (ltR r) (kas_place p k f l t)=m∧m ≤ k∧(∀ i,i < m→Ky r p i ≤ Ky r p k)∧(∀ i,m ≤ i→i < k→Ky r p k < Ky r p i)
 | 0,l,t,h1,h2,h3,h4,h5=>⟨l,rfl,by omega,h4,fun i a b=>h5 i (by omega) b⟩
 | f + 1,l,t,h1,h2,h3,h4,h5=>by
  by_cases c:l ≥ t
  ·exact ⟨l,by simp only [kas_place,c,if_true,go],by omega,h4,fun i a b=>h5 i (by omega) b⟩
  ·by_cases d:Ky r p k < Ky r p ((l + t) / 2)
   ·have d':=zfH d
    obtain ⟨m,e,a1,a2,a3⟩:=place hu f l ((l + t) / 2) (by omega) (by omega) (by omega) h4 (fun i a b=>by
     have:=hu ((l + t) / 2) i a b
     omega)
    refine ⟨m,?_,a1,a2,a3⟩
    rw [← e]
    simp only [kas_place,c,if_false,go,d',if_true]
   ·have d':=zhS d
    obtain ⟨m,e,a1,a2,a3⟩:=place hu f ((l + t) / 2 + 1) t (by omega) h2 (by omega) (fun i a=>by
     have:=hu i ((l + t) / 2) (by omega) (by omega)
     omega) h5
    refine ⟨m,?_,a1,a2,a3⟩
    rw [← e]
    simp only [kas_place,c,if_false,go,d',Bool.false_eq_true]
end
end KS
namespace KS
open PySem PySem.W PyProof.Rows
def reach {α:Type} (lt:Nat→Nat→Bool) (N:Nat):KasT α→Prop
 | .ret _=>True
 | .ask i j k=>i < N∧j < N∧reach lt N (k (lt i j))
def Bd (N:Nat) (p:Array Nat):Prop:=0 < N∧∀ x ∈ p,x < N
section
variable {lt:Nat→Nat→Bool} {N:Nat}
theorem Bd.get {p:Array Nat} (h:Bd N p) (i:Nat):p.getD i 0 < N:=by
 rw [Array.getD_eq_getD_getElem?]
 cases e:p[i]? with
 | none=>exact h.1
 | some x=>exact h.2 x (Array.mem_of_getElem? e)
end
end KS
namespace KS
open PySem PySem.W PyProof.Rows
def lexB:List Int→List Int→Bool
 | [],[]=>false
 | [],_ :: _=>true
 | _ :: _,[]=>false
 | a :: as,b :: bs=>if a=b then lexB as bs else decide (a < b)
section
variable {prog:Program} {w:World} {A:Around} {E:Value→Shared→Prop} {s:Shared}
end
end KS
namespace KS
open PySem PySem.W PyProof.Rows
def TupAt (h:Heap) (v:Value) (ns:List Int):Prop:=∃ a o xs n,v = .ref a∧h.get? a=some o∧o.cls = .type "tuple"∧o.data = .seq xs n∧IntsAre xs.toList ns
def zcy (h:Heap):List Value→List (List Int)→Prop
 | [],[]=>True
 | v :: vs,t :: ts=>TupAt h v t∧zcy h vs ts
 | _,_=>False
theorem zcy.len {h:Heap}:∀ {vs:List Value} {ts:List (List Int)},zcy h vs ts→vs.length=ts.length
 | [],[],_=>rfl
 | _ :: _,_ :: _,t=>by simp [zcy.len t.2]
 | [],_ :: _,t=>t.elim
 | _ :: _,[],t=>t.elim
theorem zcy.get {h:Heap}:∀ {vs:List Value} {ts:List (List Int)},zcy h vs ts→∀ i,i < ts.length→TupAt h (vs.getD i .none) (ts.getD i [])
 | [],[],_,i,hi=>by simp at hi
 | _ :: _,_ :: _,t,0,_=>t.1
 | _ :: _,_ :: _,t,i + 1,hi=>by simpa using zcy.get t.2 i (by simpa using hi)
 | [],_ :: _,t,_,_=>t.elim
 | _ :: _,[],t,_,_=>t.elim
theorem zcy.keeps {h h':Heap} (k:∀ b o,h.get? b=some o→o.cls = .type "tuple"→h'.get? b=some o):∀ {vs:List Value} {ts:List (List Int)},zcy h vs ts→zcy h' vs ts
 | [],[],_=>trivial
 | _ :: _,_ :: _,⟨⟨a,o,xs,n,h1,h2,h3,h4⟩,t⟩=>⟨⟨a,o,xs,n,h1,k _ _ h2 h3,h3,h4⟩,zcy.keeps k t⟩
 | [],_ :: _,t=>t.elim
 | _ :: _,[],t=>t.elim
section
variable {prog:Program} {w:World} {A:Around} {E:Value→Shared→Prop} {s:Shared}
end
end KS
namespace V2
open PySem PySem.Spec PyProof.Rows L2 KS
def TupV (H:Hp):List V→List (List Int)→Prop
 | [],[]=>True
 | y :: ys,t :: ts=>(∃ b,y = .ref b∧H b=some (.tup (t.map V.int)))∧TupV H ys ts
 | _,_=>False
section
variable {X:Cx} {W:WX}
theorem TupV.len {H:Hp}:∀ {ys:List V} {ts:List (List Int)},TupV H ys ts→ys.length=ts.length
 | [],[],_=>rfl
 | _ :: _,_ :: _,t=>by simp [TupV.len t.2]
 | [],_ :: _,t=>t.elim
 | _ :: _,[],t=>t.elim
end
end V2
namespace V2
open PySem PySem.Spec PyProof.Rows L2
section
variable {X:Cx} {W:WX}
@[simp] def ziQ (as:List A):Mo A:=match as with
 | [.int i]=>ret (.int i)
 | [.bl b]=>ret (.int (if b then 1 else 0))
 | _=>stuck
theorem zjW:zb2 X W (.type "int") ziQ:=by
 refine ⟨_,zh4,?_⟩
 intro G ι Ω H σ xs as Q w d h
 unfold ziQ at h
 split at h
 ·rename_i i
  obtain ⟨x,rfl,d1⟩:=den1 d
  simp only [Den] at d1;subst d1
  exact .inl ⟨i,rfl,zaw w (by simp only [Den]) h⟩
 ·rename_i b
  obtain ⟨x,rfl,d1⟩:=den1 d
  simp only [Den] at d1;subst d1
  exact .inr ⟨b,rfl,zaw w (by simp only [Den]) h⟩
 ·exact False.elim h
end
end V2
namespace M
open PySem V2
end M
namespace V2
open PySem PySem.Spec PyProof PyProof.Rows L2
section
variable {X:Cx} {W:WX} {e a b:Expr} {es:List Expr} {pos:Pos} {fa fb:Ev→Mo A} {te:TE} {tl th tk:TO} {lo hi stp:Option Expr}
end
end V2
namespace L2
open PySem PySem.Spec PyProof.Rows
section
variable {X:Cx}
end
end L2
namespace V2
open PySem PySem.Spec PyProof.Rows L2
end V2
namespace L2
open PySem PySem.Spec PyProof.Rows
def BltB (h:Heap) (mg:Str→Option Value):Prop:=∃ bm o,mg "__builtins__" = some (.ref bm)∧bm ≠ builtinsNs∧h.get? bm=some o∧o.cls = .type "module"∧o.dict=some builtinsNs∧o.data = .plain
end L2
namespace L2
open PySem PySem.Spec PyProof.Rows
structure zod (h:Heap) (H:Hp) (f:Addr) (qual:Str) (params:Arguments) (body:Expr) (scope:Scope) (caps:List (Str × Int)):Prop where
 ex:∃ (cl:List (Str × Addr)) (pm ctv:Value) (c':Addr) (oc:Obj) (vs:Array Value) (t:Tok),
  H f=some (.frz (PySem.W.kla_obj "<lambda>" qual params body scope cl pm c' ctv) (.own 0))∧H c'=some (.frz oc (.own 0))∧oc.data = .fields vs∧vs[1]? = some (.str qual t) ∧
  (∀ x y c,cl.lookup x=some c→cl.lookup y=some c→x=y)∧(∀ y ∈ scope.names,y.2 = .free→∃ c,cl.lookup y.1=some c) ∧
  (∀ x c,cl.lookup x=some c→(∃ v,h.IsCell c v)∧H c=none)∧∀ p ∈ caps,∃ c t,cl.lookup p.1=some c∧h.IsCell c (some (.int p.2 t))
structure ziU (scope:Scope) (y:Str) (cs:List Str):Prop where
 kind:scope.kind = .function
 co:scope.isCoroutine=false
 gen:scope.isGenerator=false
 nocell:∀ x ∈ scope.names,x.2 ≠ .cell
 par:scope.names.lookup y=some .local
 cap:∀ x ∈ cs,scope.names.lookup x=some .free
section
variable {P:Program} {w:World} {K:PySem.W.Frag} {mg:Str→Option Value} {base:Heap} {A:Around} {outer:List Env} {s:Shared} {H:Hp}
end
end L2
namespace V2
open PySem PySem.Spec PyProof.Rows L2
section
variable {X:Cx} {W:WX} {e:Expr} {fa:Ev→Mo A} {p pos:Pos}
end
end V2
namespace L2
open PySem PySem.Spec PyProof.Rows
section
variable {X:Cx}
end
end L2
namespace L2
open PySem PySem.Spec PyProof.Rows
end L2
namespace V2
open PySem PySem.Spec PyProof.Rows L2
structure TabF (K:PySem.W.Frag) (mg:Str→Option Value) (base:Heap) (x:Str):Prop where
 kin:K.In base
 glob:base.Ns mainGlobals mg
 blt:BltB base mg
 hd:∃ c P,PySem.W.tabIn K x=some (c,P)∧PySem.W.codeHdIn K c P=true
section
variable {P:Program} {w:World} {K:PySem.W.Frag} {mg:Str→Option Value} {base:Heap}
end
end V2
namespace V2
open PySem PySem.Spec PyProof.Rows L2
section
variable {X:Cx} {W:WX} {e:Expr} {fa:Ev→Mo A} {p pos:Pos}
end
end V2
namespace V2
open PySem PySem.Spec PyProof.Rows L2
structure FwOk (X:Cx) (scope:Scope) (y:Str) (cs:List Str) (js:List Nat):Prop where
 S:ziU scope y cs
 free:∀ y ∈ scope.names,y.2 = .free→X.env.kindOf y.1=some .cell∨X.env.kindOf y.1=some .free
 caps:js.map (fun j=>X.N[j]?)=cs.map some
 cell:∀ x ∈ cs,X.env.scope.names.lookup x=some .cell
def zkm (sc:Scope) (N:List Str) (scope:Scope) (y:Str) (cs:List Str) (js:List Nat):Prop :=
 ((scope.kind == .function)=true∧scope.isCoroutine=false∧scope.isGenerator=false)∧(∀ x ∈ scope.names,(x.2 == .cell)=false)∧(scope.names.lookup y == some .local)=true∧(∀ x ∈ cs,(scope.names.lookup x == some .free)=true) ∧
 (∀ y ∈ scope.names,(y.2 == .free)=true→(sc.names.lookup y.1 == some .cell)=true)∧js.map (fun j=>N[j]?)=cs.map some∧∀ x ∈ cs,(sc.names.lookup x == some .cell)=true
instance (sc:Scope) (N:List Str) (scope:Scope) (y:Str) (cs:List Str) (js:List Nat):Decidable (zkm sc N scope y cs js):=by unfold zkm;infer_instance
theorem FwOk.of {X:Cx} {scope:Scope} {y:Str} {cs:List Str} {js:List Nat} (sc:Scope) (N:List Str) (h1:X.env.scope=sc) (h2:X.N=N) (h:zkm sc N scope y cs js):FwOk X scope y cs js:=by
 obtain ⟨⟨a1,a2,a3⟩,a4,a5,a6,a7,a8,a9⟩:=h
 refine ⟨⟨by simpa using a1,a2,a3,fun x hx=>by simpa using a4 x hx,by simpa using a5,fun x hx=>by simpa using a6 x hx⟩,fun y hy hf => .inl ?_,by rw [h2];exact a8,fun x hx=>by rw [h1];simpa using a9 x hx⟩
 have:=a7 y hy (by simp [hf])
 show X.env.scope.names.lookup y.1=some .cell
 rw [h1];simpa using this
@[elab_as_elim] theorem us0 {P:List Value→Prop} (us:List Value) (h:us.length=0) (f:P []):P us:=by cases us with | nil=>exact f | cons _ _=>simp at h
@[elab_as_elim] theorem us1 {P:List Value→Prop} (us:List Value) (h:us.length=1) (f:∀ a,P [a]):P us:=by
 cases us with
 | nil=>simp at h
 | cons a r=>exact us0 r (by simpa using h) (f a)
@[elab_as_elim] theorem us2 {P:List Value→Prop} (us:List Value) (h:us.length=2) (f:∀ a b,P [a,b]):P us:=by
 cases us with
 | nil=>simp at h
 | cons a r=>exact us1 (P:=fun r=>P (a :: r)) r (by simpa using h) (f a)
@[elab_as_elim] theorem us3 {P:List Value→Prop} (us:List Value) (h:us.length=3) (f:∀ a b c,P [a,b,c]):P us:=by
 cases us with
 | nil=>simp at h
 | cons a r=>exact us2 (P:=fun r=>P (a :: r)) r (by simpa using h) (f a)
section
variable {P:Program} {w:World} {K:PySem.W.Frag} {mg:Str→Option Value} {base:Heap}
end
end V2
namespace M
open PySem V2
end M
namespace V2
open PySem PySem.Spec PyProof.Rows L2
section
variable {X:Cx} {W:WX}
end
end V2
namespace M
open PySem V2
end M
namespace L2
open PySem PySem.Spec PyProof.Rows
section
variable {prog:Program} {w:World} {A:Around} {E:Value→Shared→Prop} {h:Heap} {g:Array GenState} {d:Drawn} {t:Nat} {os:OsState}
variable {nm q:Str} {C N:Addr} {bs bm bmB:List Value} {hdct:Bool} {sn:List Str} {sub:List Value} {ab:Bool} {col:Option Bool} {dd:Option Addr} {k0 k1 k2 k3 k5:Option Value} {B newId initId:String}
end
end L2
namespace L2
open PySem PySem.Spec PyProof.Rows
section
variable {prog:Program} {w:World} {A:Around} {E:Value→Shared→Prop} {h:Heap} {g:Array GenState} {d:Drawn} {t:Nat} {os:OsState}
variable {nm q:Str} {C N:Addr} {bs bm bmB:List Value} {hdct:Bool} {sn:List Str} {sub:List Value} {ab:Bool} {col:Option Bool} {dd:Option Addr} {k0 k1 k2 k3 k5:Option Value} {B newId initId:String}
end
end L2
namespace L2
open PySem PySem.Spec PyProof.Rows Builtin Builtin.ObjectAttr
section
variable {prog:Program} {w:World} {A:Around} {E:Value→Shared→Prop} {h:Heap} {g:Array GenState} {d:Drawn} {t:Nat} {os:OsState} {K:PySem.W.Frag}
variable {nm q:Str} {C N:Addr} {bs bm:List Value} {sn:List Str} {sub:List Value} {ab:Bool} {col:Option Bool} {dd:Option Addr} {k0 k1 k2 k3 k5:Option Value} {newId:String}
end
end L2
namespace L2
open PySem PySem.Spec PyProof.Rows
section
variable {X:Cx}
def znm (j:Nat):TE:=fun σ H Q=>∃ i,σ[j]? = some (some (.int i))∧i.natAbs.log2 < 1920∧∀ x,Q (.str x) H
end
end L2
namespace L2
open PySem PySem.Spec PyProof.Rows
theorem zhi {K:PySem.W.Frag} {h:Heap} {N:Addr} {mg:Str→Option Value} {n:Str} {v:Value} (X:K.In h) (G:h.Ns N mg) (e:PySem.W.nsIn K N n=some (some v)):mg n=some v:=by
 obtain ⟨o,es,ep,ho,hd,_,hf⟩:=G
 unfold PySem.W.nsIn at e
 split at e
 ·rename_i c d es' n' sl q
  have:=X _ _ q
  rw [ho] at this
  cases this
  cases hd
  split at e
  ·rename_i en he
   cases e
   rw [← hf]
   unfold nsFind findBy
   rw [← Array.find?_toList,he]
   rfl
  ·split at e <;> cases e
 ·cases e
def zjP (K:PySem.W.Frag) (C fI:Addr):Bool:=match K.lookup C with
 | some ⟨.type "type",_, .cls cd,sl⟩=>(match cd.mro,sl.toList with
  | .ref C' :: bm,[_,_,_,_,some (.builtin n),_]=>C' == C && n == "ValueError.__new__" && !cd.hasDel && cd.hasDict && PySem.W.tailIn K bmVE bm && PySem.W.nsOkIn K cd.ns && PySem.W.nsIn K cd.ns "__init__" == some (some (.ref fI))
  | _,_=>false)
 | _=>false
structure OwnI (K:PySem.W.Frag) (C fI:Addr) (fld:Str):Prop where
 inK:zjP K C fI=true
 fn:PySem.W.typeIn K (.ref fI)=some (.type "function")
 setA:PySem.W.findIn K (.ref C) "__setattr__" = some (some (.builtin "object.__setattr__"))
 nof:PySem.W.findIn K (.ref C) fld=some none
theorem OwnI.obj {K:PySem.W.Frag} {C fI:Addr} {fld:Str} (O:OwnI K C fI fld) {h:Heap} (X:K.In h):∃ bm N nm q bs sn sub ab col dd k0 k1 k2 k3 k5 mN oI,h.get? C=some (excClassObj nm q C N bs bm true sn sub ab col dd k0 k1 k2 k3 k5 "ValueError.__new__")∧h.Ns N mN∧mN "__init__" = some (.ref fI)∧OwnTail h bmVE bm∧h.get? fI=some oI∧oI.cls = .type "function":=by
 have q:=O.inK
 obtain ⟨oI,ho',hc'⟩:=Option.map_eq_some_iff.mp O.fn
 unfold zjP at q
 split at q
 ·rename_i dd cd sl ho
  split at q
  ·rename_i C' bm k0 k1 k2 k3 n k5 hm hs
   simp only [Bool.and_eq_true,beq_iff_eq,Bool.not_eq_true'] at q
   obtain ⟨⟨⟨⟨⟨⟨rfl,rfl⟩,hdel⟩,hdi⟩,ht⟩,hok⟩,hni⟩:=q
   obtain ⟨nm,bs,mro,ns,qn,hd,sn,sub,ab,col,del⟩:=cd
   dsimp only at hm hdel hok hni hdi
   subst hm hdel hdi
   have hsl:sl = #[k0,k1,k2,k3,some (.builtin "ValueError.__new__"),k5]:=by
    obtain ⟨l⟩:=sl
    simp only at hs
    rw [hs]
   subst hsl
   exact ⟨bm,ns,nm,qn,bs,sn,sub,ab,col,dd,k0,k1,k2,k3,k5,_,oI,X _ _ ho, .of_isNs (PySem.W.isNs_of_in X hok),zhi X (.of_isNs (PySem.W.isNs_of_in X hok)) hni,PySem.W.tail_of_in X ht,X _ _ ho',hc'⟩
  ·cases q
 ·cases q
structure zob (K:PySem.W.Frag) (R:Addr):Prop where
 reads:PySem.W.readsIn K R (.type "type")=true
 find:PySem.W.findCls K (.ref R) (.type "type") "__init__" = some (.val (.builtin "ValueError.__init__"))
 ga:PySem.W.specialIn K (.ref R) "__getattribute__" = some (some (.builtin "type.__getattribute__"))
end L2
namespace L2
open PySem PySem.Spec PyProof.Rows
section
variable {X:Cx} {pins:List (Addr × Obj)} {σ:St} {H:Hp} {s1:Shared} {C fI R e:Addr} {fld qual rk sf pa:Str} {st:Stmt} {fd:FuncData} {t:Tok} {i:Int} {h2:Heap} {k:Nat} {je:Expr} {np ap cp ep p1 p2 ap2 p3 apos:Pos}
end
end L2
namespace L2
open PySem PySem.Spec PyProof.Rows
section
variable {X:Cx} {pins:List (Addr × Obj)} {σ:St} {H:Hp} {s1:Shared} {C fI R e:Addr} {fld qual rk sf pa:Str} {st:Stmt} {fd:FuncData} {t:Tok} {i:Int} {h2:Heap} {k:Nat} {je:Expr} {np ap cp ep p1 p2 ap2 p3 apos:Pos}
structure zoc (st:Stmt) (fld rk sf pa:Str):Prop where
 scope:zao [sf,pa] [sf,pa] (zaa st)
 glob:(zaa st).names.lookup rk=some .globalImplicit
 loc0:(zaa st).names.lookup sf=some .local
 loc1:(zaa st).names.lookup pa=some .local
 dbg:(rk == ("__debug__" : Str))=false∧(sf == ("__debug__" : Str))=false∧(pa == ("__debug__" : Str))=false∧(sf == ("__classdict__" : Str))=false∧(pa == ("__classdict__" : Str))=false
 text:∃ (je:Expr) (np ap cp ep p1 p2 ap2 p3 apos:Pos),zag st=[.Expr (.Call (.Attribute (.Name rk np) "__init__" ap) [.Name sf p1,je] [] cp) ep, .Assign [.Attribute (.Name sf p2) fld ap2] (.Name pa p3) apos] ∧
  (∀ env,starEach [.Name sf p1,je] env=(false,eval (.Name sf p1) env) :: starEach [je] env)∧(∀ env,starEach [je] env=(false,eval je env) :: starEach [] env) ∧
  (∀ env:Env,∃ pl,eval (.Call (.Attribute (.Name rk np) "__init__" ap) [.Name sf p1,je] [] cp) env=(do
   let ov ← eval (.Name rk np) env
   standAt ap.atName
   let (f,first) ← holding [ov] (getMethod ov "__init__" pl)
   callWith cp f first (backTo cp (starEach [.Name sf p1,je] env)) [])) ∧
  (∀ env,swapsWith (.Call (.Attribute (.Name rk np) "__init__" ap) [.Name sf p1,je] [] cp) none ep.line env=pure false) ∧
  (∀ env,swapsWith (.Name pa p3) (some (.Attribute (.Name sf p2) fld ap2)) apos.line env=pure false) ∧
  (∀ Y:Cx,Y.N=[sf,pa]→Y.env.scope=zaa st→PE Y je (znm 1))
end
end L2
namespace L2
open PySem PySem.Spec PyProof.Rows
section
variable {M:Model} {A:Around} {E:Value→Shared→Prop} {env:Env}
variable {nm q:Str} {C N:Addr} {bs bm:List Value} {hdct:Bool} {sn:List Str} {sub:List Value} {ab:Bool} {col:Option Bool} {dd:Option Addr} {k0 k1 k2 k3 k5:Option Value} {newId:String}
end
section
variable {prog:Program} {w:World} {A:Around} {E:Value→Shared→Prop} {s:Shared} {env:Env}
variable {nm q:Str} {C N:Addr} {bs bm bmB:List Value} {hdct:Bool} {sn:List Str} {sub:List Value} {ab:Bool} {col:Option Bool} {dd:Option Addr} {k0 k1 k2 k3 k5:Option Value} {B newId initId:String}
end
section
variable {X:Cx} {W:WX} {x:Str} {pos np cpos:Pos} {e:Expr} {t:TA}
end
end L2
namespace L2
open PySem PySem.Spec PyProof.Rows Builtin Builtin.ObjectAttr
structure XAt (K:PySem.W.Frag) (D:Addr) (fld:Str):Prop where
 ga:PySem.W.findIn K (.ref D) "__getattribute__" = some (some (.builtin "BaseException.__getattribute__"))
 gx:PySem.W.findIn K (.ref D) "__getattr__" = some none
 no:PySem.W.findIn K (.ref D) fld=some none
 be:PySem.W.subIn K (.ref D) (.type "BaseException")=some true
 hd:(PySem.W.clsIn K D).any (·.hasDict)=true
section
variable {prog:Program} {w:World} {A:Around} {E:Value→Shared→Prop} {h:Heap} {g:Array GenState} {d:Drawn} {t:Nat} {os:OsState} {K:PySem.W.Frag} {a D dx:Addr} {o:Obj} {fld:Str} {mA:Str→Option Value} {v:Value} {vs:Array Value}
end
section
variable {X:Cx} {x D dx:Addr} {oe:Obj} {fld:Str} {i:Nat} {n:Str} {np pos:Pos}
end
section
variable {X:Cx} {C:Addr} {i:Nat} {n y:Str} {np pos:Pos} {b₀:Stmt} {suite:List Stmt} {rest:List ExceptHandler} {ts th:TH}
end
end L2
namespace V2
open PySem PySem.Spec PyProof.Rows L2
section
variable {K:PySem.W.Frag} {G H:Hp} {ι:List Addr} {Ω:Sto} {d:Addr}
end
section
variable {X:Cx} {W:WX} {x fld:Str} {e:Expr} {np cpos pos:Pos} {fs:Ev→Mo (List A)}
end
def znk (e:Exc) (d:Addr) (dx:Option Addr):Prop:=(e.fs=[]∧dx=none)∨(e.fs ≠ []∧dx=some d)
structure Cau (K:PySem.W.Frag) (oe:Obj) (d:Addr) (e:Exc):Prop where
 dat:∃ vs,oe.data = .fields vs
 cls:∃ E,PySem.W.nsIn K mainGlobals e.cls=some (some (.ref E))∧oe.cls = .ref E
 dic:znk e d oe.dict
end V2
namespace M
open PySem V2
end M
namespace V2
open PySem PySem.Spec PyProof.Rows L2
section
variable {X:Cx} {W:WX} {pos:Pos}
end
end V2
namespace V2
open PySem PySem.Spec PyProof.Rows L2
section
variable {X:Cx} {W:WX} {a b c d:Expr} {ta tb tc td:TE} {fa fb fc fd:Ev→Mo A} {pos:Pos}
def zm9 (_ j:Int):Prop:=0 < j∧j < 1152921504606846976
instance (i j:Int):Decidable (zm9 i j):=by unfold zm9;infer_instance
end
end V2
namespace M
open PySem V2
end M
namespace PySem
section
variable {prog:Program} {w:World} {A:Around} {E:Value→Shared→Prop} {s:Shared}
end
set_option maxRecDepth 100000
section
variable {prog:Program} {w:World} {A:Around} {E:Value→Shared→Prop} {s:Shared}
end
end PySem
namespace V2
open PySem PySem.Spec PyProof.Rows L2
section
variable {X:Cx} {W:WX}
end
section
variable {K:PySem.W.Frag}
end
section
variable {X:Cx} {W:WX}
end
end V2
namespace V2
open PySem PySem.Spec PyProof.Rows L2
section
variable {X:Cx} {W:WX}
end
end V2
namespace V2
open PySem PySem.Spec PyProof.Rows L2
section
variable {X:Cx} {W:WX} {pos:Pos}
end
end V2
namespace M
open PySem V2
end M
namespace M
open PySem V2
end M
namespace L2
open PySem PySem.Spec PyProof.Rows
def znS (p:Addr) (oe:Obj) (outer:List Env) (s:Shared) (H:Hp):Prop:=s.heap.get? p=some oe∧H p=none∧p ∉ frs outer∧∀ v,oe.data ≠ .cell v
def RunP (P:Program) (w:World) (K:PySem.W.Frag) (mg:Str→Option Value) (base:Heap) (k:Nat) (f:Addr) (fd:FuncData) (ps:List Str) (p:Addr) (oe:Obj) (sp:Sp):Prop :=
 ∀ (A:Around) (outer:List Env) (s:Shared) (H:Hp) (args:Args) (us:List Value) (vs:List V) (Q:VK) (E:XK),Room k A→Env0 P w K mg base A outer s H→BindsTo s fd args (ps.zip us)→Vals vs us→znS p oe outer s H→sp vs H Q E →
  codeAny (model P w) (A.mark (some (.ref p))) (.call (.ref f) args) (CR CX0 outer P w H s Q E) s
section
variable {P:Program} {w:World} {K:PySem.W.Frag} {mg:Str→Option Value} {base:Heap} {p:Addr} {oe:Obj}
set_option maxRecDepth 100000 in
theorem zlS {k:Nat} {f:Addr} {name qual:Str} {params:Arguments} {body:List Stmt} {scope:Scope} {dV kV doc pm cdv ct oc:Value} {an od:Option Addr}
  {osl:Array (Option Value)} {N ps:List Str} {sp:Sp} (lk:K.lookup f=some ⟨oc,od, .func (PySem.W.fnOf name qual params body scope dV kV doc pm an cdv ct),osl⟩) (hcd:PySem.W.codeIn K cdv qual=true) (S:zao N ps scope)
  (len:∀ vs H Q E,sp vs H Q E→vs.length=ps.length)
  (hbody:∀ (A:Around) (outer:List Env) (s:Shared) (H:Hp) (vs:List V) (Q:VK) (E:XK),Room k (A.deeper (envOfC qual scope s.heap.objs.size f cdv))→sp vs H Q E →
   ∃ t,PSs ((cxOf CX0 P w K mg base N qual scope f cdv A outer s H E).zcE p oe) body t∧t { nx:=fun _ H'=>Q .non H',rt:=Q } (start N vs) H) :
  RunP P w K mg base (k + 1) f (PySem.W.fnOf name qual params body scope dV kV doc pm an cdv ct) ps p oe sp:=by
 intro A outer s H args us vs Q E hr e0 hb r pin hsp
 have hl:=len _ _ _ _ hsp
 have KX:K.In s.heap:=e0.mod.kin.keeps fun b o e=>(e0.bs b o e).1
 have lim:s.heap.NoLimit:=e0.mod.nolimit.keeps fun b o e=>(e0.bs b o e).1
 have hkind:∀ y ∈ ps.zip us,scope.names.lookup y.1=some .local∨(scope.names.lookup y.1=some .cell∧((cellsFrom (s.heap.objs.size + 1) scope.names []).lookup y.1).isSome=true):=fun ⟨n,v⟩ hy=>by
  rcases S.par n (List.of_mem_zip hy).1 with q | q
  ·exact .inl q
  ·exact .inr ⟨q,PySem.W.cellsFrom_some _ _ _ (.inl q)⟩
 refine codeAny_call_function (A:=A.mark (some (.ref p))) hr.depth (KX _ _ lk) rfl S.co S.gen rfl (PySem.W.codeRec_of KX hcd) (hb _ _ _ _ ?_)
 refine wpAny_newFunctionEnv_cells S.kind hkind fun env he s1 x=>?_
 subst he
 refine ⟨lim.keeps x.toInCall.keep,codeAny_func ?_⟩
 obtain ⟨t,ht,hq⟩:=hbody A outer s H vs Q E (hr.deeper _) hsp
 have I0:Inv (cxOf CX0 P w K mg base N qual scope f cdv A outer s H E) [] (start N vs) H s1:=zdF S hr.hd e0 hl r x
 obtain ⟨p1,p2,p3,p4⟩:=pin
 have hlt:p < s.heap.objs.size:=by
  rcases Nat.lt_or_ge p s.heap.objs.size with h | h
  ·exact h
  ·exfalso
   first | (rw [Heap.get?_none_of_ge h] at p1;cases p1) | (simp [Heap.get?,h] at p1) | (unfold Heap.get? at p1;simp [h] at p1)
 have I:Inv ((cxOf CX0 P w K mg base N qual scope f cdv A outer s H E).zcE p oe) [] (start N vs) H s1:=I0.zcE ⟨x.toInCall.keep _ _ p1,p2,fun z=>absurd hlt (by rw [z];exact Nat.lt_irrefl _),p3,p4⟩
 refine wpAny_mono (ht [] s1 (start N vs) H _ I hq) (fun fl s' hs=>?_) fun e s' hs=>hs.elim
 have fin:∀ {σ':St} {H':Hp} {v:V} {u:Value},Inv ((cxOf CX0 P w K mg base N qual scope f cdv A outer s H E).zcE p oe) [] σ' H' s'→RelV v u→Q v H'→CE outer P w H s Q u s' :=
  fun {σ' H' v u} J rv q=>⟨v,H',J.os,J.bare,J.base,J.hok,rv,q⟩
 cases fl with
 | ret u =>
  obtain ⟨v,σ',H',J,rv,q⟩:=hs
  exact fin J rv q
 | next =>
  obtain ⟨σ',H',J,q⟩:=hs
  exact fin (v:=V.non) (u:=Value.none) J rfl q
 | brk =>
  obtain ⟨_,_,_,q⟩:=hs
  exact False.elim q
 | cont =>
  obtain ⟨_,_,_,q⟩:=hs
  exact False.elim q
end
end L2
namespace V2
open PySem PySem.Spec PyProof.Rows L2
def DefP (P:Program) (w:World) (K:PySem.W.Frag) (mg:Str→Option Value) (base:Heap) (x:Str) (k:Nat) (ps:List Str) (p:Addr) (oe:Obj) (F:List A→Mo A):Prop :=
 ∃ f fd,RunP P w K mg base k f fd ps p oe (fun vs H Q _=>spV K ps.length F vs H Q fun _ _ _=>False)∧mg x=some (.ref f)∧PySem.W.keepIn K (.ref f)=true∧Binds K fd ps []
theorem DefP.of {P:Program} {w:World} {K:PySem.W.Frag} {mg:Str→Option Value} {base:Heap} {p:Addr} {oe:Obj} {x:Str} {st:Stmt} {N ps:List Str} {k:Nat} {b:MS} (h:HasFn K mg x st) (S:zao N ps (zaa st))
  (bind:∀ (kV doc pm:Value) (an:Option Addr) (cdv ct:Value) (us:List Value),us.length=ps.length→bindArgs (PySem.W.fnOf x x (zap st) (zag st) (zaa st) .none kV doc pm an cdv ct) ⟨us,[]⟩ = pure (ps.zip us))
  (hbody:∀ (f:Addr) (cdv:Value) (A:Around) (outer:List Env) (s:Shared) (H:Hp) (E:XK),Room k (A.deeper (envOfC x (zaa st) s.heap.objs.size f cdv)) →
   VSs ((cxOf CX0 P w K mg base N x (zaa st) f cdv A outer s H E).zcE p oe) noW (zag st) b):DefP P w K mg base x (k + 1) ps p oe (fnF N.length b):=by
 obtain ⟨f,fd,hm,F⟩:=h.ex
 refine ⟨f,fd,?_,hm,F.kp,F.binds bind⟩
 obtain ⟨oc,od,kV,doc,pm,an,cdv,ct,osl,rfl,lk,hcd⟩:=F.ex
 refine zlS lk hcd S (fun vs H Q E h=>h.1) fun A outer s H vs Q E hr hsp=>?_
 obtain ⟨t,p,q⟩:=hbody f cdv A outer s H E hr
 exact ⟨t,p,zen (E:=fun _ _ _=>False) q hsp⟩
section
variable {X:Cx} {W:WX} {x:Str} {e:Expr} {es:List Expr} {np pos:Pos} {fs:Ev→Mo (List A)} {p:Addr} {oe:Obj}
end
end V2
namespace V2
open PySem PySem.Spec PyProof.Rows L2
end V2
namespace M
open PySem V2
end M
namespace V2
open PySem PySem.Spec PyProof.Rows L2
end V2
namespace V2
open PySem PySem.Spec PyProof.Rows L2
end V2
namespace V2
open PySem PySem.Spec PyProof.Rows L2
section
variable {X:Cx} {W:WX} {st:List Stmt} {g:MS}
end
end V2
namespace M
open PySem V2
end M
namespace M
open PySem V2
end M
namespace V2
open PySem PySem.Spec PyProof.Rows L2
def putD {α:Type} (f:Str) (v:α):List (Str × α)→List (Str × α)
 | []=>[(f,v)]
 | (g,x) :: r=>if g=f then (g,v) :: r else (g,x) :: putD f v r
@[simp] def Fd.cell:Fd→Option Cell
 | .lst ds=>some (.lst ds)
 | .dct kvs=>some (.dct kvs)
 | .val _=>none
theorem zio {α:Type} {f:Str}:∀ {l:List (Str × α)} {x:α},l.lookup f=some x→∃ i,l[i]? = some (f,x)∧∀ y,putD f y l=l.set i (f,y)
 | [],_,h=>by simp at h
 | (g,z) :: r,x,h=>by
  by_cases e:g=f
  ·subst e
   simp [List.lookup] at h
   subst h
   exact ⟨0,rfl,fun y=>by simp [putD]⟩
  ·have hb:(f == g)=false:=beq_eq_false_iff_ne.mpr (Ne.symm e)
   simp only [List.lookup,hb] at h
   obtain ⟨i,h1,h2⟩:=zio h
   exact ⟨i + 1,by simpa using h1,fun y=>by simp [putD,e,h2 y]⟩
section
variable {K:PySem.W.Frag} {G H:Hp} {ι:List Addr} {Ω:Sto}
theorem zbG:∀ {ws:List (Str × V)} {fs:List (Str × Fd)},zcD K G ι H ws fs↔ws.length=fs.length∧∀ (i:Nat) (h:Str) (v:V) (g:Str) (fd:Fd),ws[i]? = some (h,v)→fs[i]? = some (g,fd)→h=g∧FdOk K G ι H v fd
 | [],[]=>⟨fun _=>⟨rfl,fun i h v g fd q=>by simp at q⟩,fun _=>trivial⟩
 | [],_ :: _=>⟨fun h=>h.elim,fun h=>by simp at h⟩
 | _ :: _,[]=>⟨fun h=>h.elim,fun h=>by simp at h⟩
 | (f,v) :: ws,(g,d) :: fs=>by
  constructor
  ·rintro ⟨h1,h2,h3⟩
   obtain ⟨q1,q2⟩:=zbG.mp h3
   refine ⟨by simp [q1],fun i h v' g' fd a b=>?_⟩
   cases i with
   | zero=>simp at a b;obtain ⟨rfl,rfl⟩:=a;obtain ⟨rfl,rfl⟩:=b;exact ⟨h1,h2⟩
   | succ i=>exact q2 i h v' g' fd (by simpa using a) (by simpa using b)
  ·rintro ⟨q1,q2⟩
   obtain ⟨h1,h2⟩:=q2 0 f v g d rfl rfl
   exact ⟨h1,h2,zbG.mpr ⟨by simpa using q1,fun i h v' g' fd a b=>q2 (i + 1) h v' g' fd (by simpa using a) (by simpa using b)⟩⟩
theorem zcD.len {ws:List (Str × V)} {fs:List (Str × Fd)} (h:zcD K G ι H ws fs):ws.length=fs.length:=(zbG.mp h).1
theorem FdOk.ownC {v:V} {fd:Fd} {c:Cell} (h:FdOk K G ι H v fd) (hc:fd.cell=some c):∃ b,v = .ref b∧b ∉ ι∧(∃ o,H b=some o)∧zc3 K G ι H b c:=by
 cases fd with
 | val a=>cases hc
 | lst ds=>cases hc;obtain ⟨b,xs,h1,h2,h3,h4,h5⟩:=h;exact ⟨b,h1,h3,⟨_,h4⟩,h2,xs,h4,h5⟩
 | dct kvs=>cases hc;obtain ⟨b,ws,h1,h2,h3,h4,h5,h6⟩:=h;exact ⟨b,h1,h3,⟨_,h4⟩,h2,ws,h4,h5,h6⟩
theorem Fd.zi3 {fd:Fd} {c:Cell} (hc:fd.cell=some c):fd.own=true:=by cases fd <;> first | rfl | cases hc
theorem Fd.zg7 {fd:Fd} {c:Cell} (hc:fd.cell=some c):c.noOwn=true:=by cases fd <;> cases hc <;> rfl
theorem FdOk.lend {b:Addr} {v:V} {fd:Fd} (h:FdOk K G ι H v fd) (hb:fd.own=true→v ≠ .ref b):FdOk K G (ι ++ [b]) H v fd:=by
 cases fd with
 | val a=>exact Den.ext (Ext.cell b) h
 | lst ds =>
  obtain ⟨b',xs,h1,h2,h3,h4,h5⟩:=h
  exact ⟨b',xs,h1,h2,by simp;exact ⟨h3,fun e=>hb rfl (by rw [h1,e])⟩,h4,h5.ext (Ext.cell b)⟩
 | dct kvs =>
  obtain ⟨b',ws,h1,h2,h3,h4,h5,h6⟩:=h
  exact ⟨b',ws,h1,h2,by simp;exact ⟨h3,fun e=>hb rfl (by rw [h1,e])⟩,h4,h5,h6.ext (Ext.cell b)⟩
theorem Wd.unfold {s:Nat} {cls f:Str} {fs:List (Str × Fd)} {fd:Fd} {c:Cell} (w:Wd K G ι Ω H) (hs:Ω[s]? = some (.ins cls fs)) (hf:fs.lookup f=some fd) (hc:fd.cell=some c) :
  ∃ b,Wd K G (ι ++ [b]) (Ω.set s (.ins cls (putD f (.val (.cel Ω.length)) fs)) ++ [c]) H:=by
 obtain ⟨a,ha⟩:=w.addr hs
 obtain ⟨g,C,dx,ws,h0,h1,h2⟩:=w.cel s _ a hs ha
 obtain ⟨i0,e1,e2⟩:=zio hf
 obtain ⟨q1,q2⟩:=zbG.mp h2
 have hi0:i0 < fs.length:=(List.getElem?_eq_some_iff.mp e1).1
 obtain ⟨⟨k0,v0⟩,e3⟩ : ∃ p,ws[i0]? = some p:=⟨ws[i0]'(by omega),List.getElem?_eq_getElem _⟩
 obtain ⟨rfl,o0⟩:=q2 i0 k0 v0 f fd e3 e1
 obtain ⟨b,rfl,hb,⟨o,ho⟩,hC⟩:=o0.ownC hc
 have own0:zbN H ι Ω s i0 b:=⟨a,cls,fs,C,dx,ws,_,_,fd,ha,hs,h1,e1,Fd.zi3 hc,e3⟩
 have hsl:s < Ω.length:=(List.getElem?_eq_some_iff.mp hs).1
 have hι:∀ k,k < Ω.length→(ι ++ [b])[k]? = ι[k]?:=fun k hk=>List.getElem?_append_left (by rw [w.len];exact hk)
 have hΩ:∀ k,k < Ω.length→(Ω.set s (.ins cls (putD k0 (.val (.cel Ω.length)) fs)) ++ [c])[k]? = (Ω.set s (.ins cls (putD k0 (.val (.cel Ω.length)) fs)))[k]?:=fun k hk=>List.getElem?_append_left (by simpa using hk)
 refine ⟨b,w.sub,?_,by simp [w.len],fun x hx=>?_,fun k c' a' z1 z2=>?_,fun b' k i k' i' z1 z2=>?_⟩
 ·rw [List.nodup_append]
  exact ⟨w.inj,by simp,fun x hx y hy=>by simp at hy;subst hy;exact fun e=>hb (e ▸ hx)⟩
 ·rcases List.mem_append.mp hx with h | h
  ·exact w.live x h
  ·simp at h;subst h;exact ⟨o,ho⟩
 ·by_cases hk:k < Ω.length
  ·rw [hι k hk] at z2
   rw [hΩ k hk] at z1
   by_cases hks:k=s
   ·subst hks
    rw [List.getElem?_set_self hsl] at z1
    cases z1
    rw [ha] at z2;cases z2
    refine ⟨g,C,dx,ws,h0,h1,zbG.mpr ⟨by rw [e2];simpa using q1,fun j h v g' fd' y1 y2=>?_⟩⟩
    rw [e2] at y2
    by_cases hj:j=i0
    ·subst hj
     rw [List.getElem?_set_self hi0] at y2
     cases y2
     rw [e3] at y1;cases y1
     refine ⟨rfl,?_⟩
     simp only [FdOk,Den]
     exact ⟨b,rfl,by rw [← w.len];simp⟩
    ·rw [List.getElem?_set_ne (Ne.symm hj)] at y2
     obtain ⟨r1,r2⟩:=q2 j h v g' fd' y1 y2
     refine ⟨r1,r2.lend fun ow ev=>hj ?_⟩
     subst ev
     exact (w.sep b _ j _ i0 ⟨a,cls,fs,C,dx,ws,_,_,fd',ha,hs,h1,y2,ow,y1⟩ own0).2
   ·rw [List.getElem?_set_ne (Ne.symm hks)] at z1
    have q:=w.cel k c' a' z1 z2
    cases c' with
    | lst ds=>obtain ⟨y1,xs,y2,y3⟩:=q;exact ⟨y1,xs,y2,y3.ext (Ext.cell b)⟩
    | dct kvs=>obtain ⟨y1,ws',y2,y3,y4⟩:=q;exact ⟨y1,ws',y2,y3,y4.ext (Ext.cell b)⟩
    | ins cls' fs' =>
     obtain ⟨y0,C',dx',ws',y1,y2,y3⟩:=q
     obtain ⟨p1,p2⟩:=zbG.mp y3
     refine ⟨y0,C',dx',ws',y1,y2,zbG.mpr ⟨p1,fun j h v g' fd' y4 y5=>?_⟩⟩
     obtain ⟨r1,r2⟩:=p2 j h v g' fd' y4 y5
     refine ⟨r1,r2.lend fun ow ev=>hks ?_⟩
     subst ev
     exact (w.sep b k j s i0 ⟨a',cls',fs',C',dx',ws',_,_,fd',z2,z1,y2,y5,ow,y4⟩ own0).1
    | tab x pos qual=>exact q
    | dead=>trivial
  ·have hk2:k=Ω.length:=by
    have:=(List.getElem?_eq_some_iff.mp z1).1
    simp at this;omega
   subst hk2
   rw [← w.len] at z2
   simp at z2
   subst z2
   simp at z1
   subst z1
   cases fd with
   | val x=>cases hc
   | lst ds=>cases hc;obtain ⟨y1,xs,y2,y3⟩:=hC;exact ⟨y1,xs,y2,y3.ext (Ext.cell b)⟩
   | dct kvs=>cases hc;obtain ⟨y1,ws',y2,y3,y4⟩:=hC;exact ⟨y1,ws',y2,y3,y4.ext (Ext.cell b)⟩
 ·have back:∀ {k i},zbN H (ι ++ [b]) (Ω.set s (.ins cls (putD k0 (.val (.cel Ω.length)) fs)) ++ [c]) k i b'→zbN H ι Ω k i b':=fun {k i} h=>by
   have h0':=h
   obtain ⟨a',cls',fs',C',dx',ws',g',h',fd',y1,y2,y3,y4,y5,y6⟩:=h
   by_cases hk:k < Ω.length
   ·rw [hι k hk] at y1
    rw [hΩ k hk] at y2
    by_cases hks:k=s
    ·subst hks
     rw [List.getElem?_set_self hsl] at y2
     cases y2
     rw [ha] at y1;cases y1
     rw [h1] at y3;cases y3
     rw [e2] at y4
     by_cases hj:i=i0
     ·subst hj
      rw [List.getElem?_set_self hi0] at y4
      cases y4
      cases y5
     ·rw [List.getElem?_set_ne (Ne.symm hj)] at y4
      exact ⟨a,_,fs,C,dx,ws,g',h',fd',ha,hs,h1,y4,y5,y6⟩
    ·rw [List.getElem?_set_ne (Ne.symm hks)] at y2
     exact ⟨a',cls',fs',C',dx',ws',g',h',fd',y1,y2,y3,y4,y5,y6⟩
   ·have hk2:k=Ω.length:=by
     have:=(List.getElem?_eq_some_iff.mp y2).1
     simp at this;omega
    subst hk2
    exact (h0'.no (by simp) (Fd.zg7 hc)).elim
  exact w.sep b' k i k' i' (back z1) (back z2)
theorem ClFs.get {n:Nat}:∀ {fs:List (Str × Fd)} {i:Nat} {p:Str × Fd},ClFs n fs→fs[i]? = some p→ClF n p.2
 | [],_,_,_,h=>by simp at h
 | _ :: _,0,_,c,h=>by simp at h;subst h;exact c.1
 | _ :: fs,i + 1,_,c,h=>ClFs.get (fs:=fs) c.2 (by simpa using h)
end
end V2
namespace V2
open PySem PySem.Spec PyProof.Rows L2
structure ClS (Ω:Sto) (ρ:Ev):Prop where
 cel:∀ (k:Nat) (c:Cell),Ω[k]? = some c→ClC Ω.length c
 env:∀ (i:Nat) (d:A),ρ[i]? = some (some d)→Cl Ω.length d
section
variable {K:PySem.W.Frag} {G H:Hp} {ι:List Addr} {Ω Ω1 Ω2 Ω':Sto} {σ:L2.St} {ρ:Ev} {W:WX} {s:Nat} {f:Str}
end
section
variable {X:Cx} {W:WX} {e:Expr} {tg:Expr} {st:Stmt} {g d:Ev→Mo A} {gb db:Ev→Mo Bool} {gs ds:MS} {gt dt:A→MS}
end
section
variable {K:PySem.W.Frag} {G H:Hp} {ι:List Addr} {Ω:Sto}
theorem Wd.ins (w:Wd K G ι Ω H) {s:Nat} {cls:Str} {fs:List (Str × Fd)} {v:V} (h:Ω[s]? = some (.ins cls fs)) (d:Den K G ι v (.cel s)):∃ a C dx,∃ ws:List (Str × V),v = .ref a∧ι[s]? = some a∧G a=none∧PySem.W.nsIn K mainGlobals cls=some (some (.ref C))∧H a=some (.ins C dx ws)∧zcD K G ι H ws fs:=by
 simp only [Den] at d
 obtain ⟨a,rfl,ha⟩:=d
 obtain ⟨g,C,dx,ws,h1,h2,h3⟩:=w.cel s _ a h ha
 exact ⟨a,C,dx,ws,rfl,ha,g,h1,h2,h3⟩
end
section
variable {X:Cx} {W:WX} {e o value:Expr} {f:Str} {cs:List Str} {pos pos':Pos} {fe fo fv:Ev→Mo A}
end
end V2
namespace L2
open PySem PySem.Spec PyProof.Rows
section
variable {X:Cx} {W:WX} {k:Nat} {f C:Addr} {fd:FuncData} {ps:List Str} {sp:Sp} {dvs:List V} {ds:List Value} {x m:Str} {p pos apos:Pos} {e o:Expr} {es:List Expr} {ta:TE} {t:TA}
structure znb (K:PySem.W.Frag) (R:Addr) (m:Str) (f:Addr):Prop where
 reads:PySem.W.readsIn K R (.type "type")=true
 find:PySem.W.findCls K (.ref R) (.type "type") m=some (.val (.ref f))
 ga:PySem.W.specialIn K (.ref R) "__getattribute__" = some (some (.builtin "type.__getattribute__"))
 kp:PySem.W.keepIn K (.ref f)=true
end
end L2
namespace V2
open PySem PySem.Spec PyProof.Rows L2
@[simp] def zm3 (n:Nat) (das:List A) (F:List A→Mo A):List A→Mo A:=fun as=>if as.length + das.length=n then F (as ++ das) else stuck
structure zg3 (P:Program) (w:World) (K:PySem.W.Frag) (mg:Str→Option Value) (base:Heap) (cls m:Str) (k:Nat) (n:Nat) (das:List A) (F:List A→Mo A):Prop where
 ex:∃ C f fd ps ds dvs,PySem.W.nsIn K mainGlobals cls=some (some (.ref C))∧Cls K C∧Meth K C m f∧ps.length=n∧FnOk P w K mg base (CXE P w) k f fd ps (spV K ps.length F)∧Binds K fd ps ds∧Vals dvs ds∧∀ G ι,DenL K G ι dvs das
def TabM (X:Cx) (m:Str) (tab:List (Str × (List A→Mo A))):Prop:=∀ cls F,tab.lookup cls=some F→∃ k n das F0,F=zm3 n das F0∧Room k X.A∧zg3 X.prog X.w X.K X.mg X.base cls m k n das F0
section
variable {X:Cx} {W:WX} {m:Str} {tab:List (Str × (List A→Mo A))} {o e:Expr} {es:List Expr} {fo:Ev→Mo A} {fs:Ev→Mo (List A)} {pos apos:Pos}
theorem TabM.nil:TabM X m []:=fun cls F h=>by simp at h
theorem TabM.cons {cls:Str} {k n:Nat} {das:List A} {F:List A→Mo A} (h:zg3 X.prog X.w X.K X.mg X.base cls m k n das F) (hr:Room k X.A) (t:TabM X m tab):TabM X m ((cls,zm3 n das F) :: tab):=fun c F' q=>by
 by_cases e:c=cls
 ·subst e
  simp [List.lookup] at q
  exact ⟨k,n,das,F,q.symm,hr,h⟩
 ·have hb:(c == cls)=false:=beq_eq_false_iff_ne.mpr e
  simp only [List.lookup,hb] at q
  exact t c F' q
structure zmL (P:Program) (w:World) (K:PySem.W.Frag) (mg:Str→Option Value) (base:Heap) (cls:Str) (k:Nat) (n:Nat) (F:List A→Mo A):Prop where
 ex:∃ C f fd ps,PySem.W.nsIn K mainGlobals cls=some (some (.ref C))∧mg cls=some (.ref C)∧Mk K C f∧ps.length=n∧FnOk P w K mg base (CXE P w) k f fd ps (spV K ps.length F)∧Binds K fd ps []
structure zl1 (P:Program) (w:World) (K:PySem.W.Frag) (mg:Str→Option Value) (base:Heap) (rk m:Str) (k:Nat) (n:Nat) (F:List A→Mo A):Prop where
 ex:∃ R f fd ps,mg rk=some (.ref R)∧znb K R m f∧ps.length=n∧FnOk P w K mg base (CXE P w) k f fd ps (spV K ps.length F)∧Binds K fd ps []
end
end V2
namespace V2
open PySem PySem.Spec PyProof.Rows L2
abbrev lent (Ω:Sto) (s:Nat) (cls f:Str) (fs:List (Str × Fd)) (c:Cell):Sto:=Ω.set s (.ins cls (putD f (.val (.cel Ω.length)) fs)) ++ [c]
section
variable {cs:List Str} {i:Nat} {f:Str} {ρ:Ev} {Ω:Sto} {s:Nat} {cls:Str} {fs:List (Str × Fd)} {fd fd':Fd} {c c':Cell}
end
section
variable {X:Cx} {W:WX} {e e1 o tg:Expr} {f:Str} {cs:List Str} {i:Nat} {pos pos' apos fpos:Pos} {fe fi:Ev→Mo A}
end
section
variable {X:Cx} {W:WX} {st:Stmt} {f:Str} {cs:List Str} {i:Nat} {pos lpos apos fpos npos:Pos} {gs:MS} {x:Str}
end
end V2
namespace V2
open PySem PySem.Spec PyProof.Rows L2
section
variable {X:Cx} {W:WX} {st:Stmt} {f:Str} {cs:List Str} {i:Nat} {fv:Ev→Mo A}
end
section
variable {P:Program} {w:World} {K:PySem.W.Frag} {mg:Str→Option Value} {base:Heap}
theorem zga {x qual:Str} {st:Stmt} {N ps:List Str} {k:Nat} {b:MS} {f:Addr} {fd:FuncData} (F:Fun K x qual st f fd) (S:zao N ps (zaa st))
  (hbody:∀ (f:Addr) (cdv:Value) (A:Around) (outer:List Env) (s:Shared) (H:Hp) (E:XK),Room k (A.deeper (envOfC qual (zaa st) s.heap.objs.size f cdv)) →
   VSs (cxX P w K mg base N qual (zaa st) f cdv A outer s H E) (fun _=>E) (zag st) b):FnOk P w K mg base (CXE P w) (k + 1) f fd ps (spV K ps.length (fnF N.length b)):=by
 obtain ⟨oc,od,kV,doc,pm,an,cdv,ct,osl,rfl,lk,hcd⟩:=F.ex
 refine zi7 lk hcd S (fun vs H Q E h=>h.1) fun A outer s H vs Q E hr hsp=>?_
 obtain ⟨t,p,q⟩:=hbody f cdv A outer s H E hr
 exact ⟨t,zhR p,zen q hsp⟩
structure HasM (K:PySem.W.Frag) (mg:Str→Option Value) (cls m qual:Str) (st:Stmt):Prop where
 ex:∃ C f fd,PySem.W.nsIn K mainGlobals cls=some (some (.ref C))∧mg cls=some (.ref C)∧Cls K C∧Meth K C m f∧Fun K m qual st f fd
theorem zg3.of {cls m qual:Str} {st:Stmt} {N ps:List Str} {k:Nat} {b:MS} (h:HasM K mg cls m qual st) (S:zao N ps (zaa st))
  (bind:∀ (kV doc pm:Value) (an:Option Addr) (cdv ct:Value) (us:List Value),us.length=ps.length→bindArgs (PySem.W.fnOf m qual (zap st) (zag st) (zaa st) .none kV doc pm an cdv ct) ⟨us,[]⟩ = pure (ps.zip us))
  (hbody:∀ (f:Addr) (cdv:Value) (A:Around) (outer:List Env) (s:Shared) (H:Hp) (E:XK),Room k (A.deeper (envOfC qual (zaa st) s.heap.objs.size f cdv)) →
   VSs (cxX P w K mg base N qual (zaa st) f cdv A outer s H E) (fun _=>E) (zag st) b):zg3 P w K mg base cls m (k + 1) ps.length [] (fnF N.length b):=by
 obtain ⟨C,f,fd,h1,_,h2,h3,F⟩:=h.ex
 exact ⟨C,f,fd,ps,[],[],h1,h2,h3,rfl,zga F S hbody,F.binds bind, .nil,fun _ _ => .nil⟩
theorem zg3.none {cls m qual:Str} {st:Stmt} {N ps:List Str} {k n:Nat} (h:HasM K mg cls m qual st) (hn:ps.length=n) (bind:∀ (kV doc pm:Value) (an:Option Addr) (cdv ct:Value) (us:List Value),us.length=ps.length→bindArgs (PySem.W.fnOf m qual (zap st) (zag st) (zaa st) .none kV doc pm an cdv ct) ⟨us,[]⟩ = pure (ps.zip us)) :
  zg3 P w K mg base cls m k n [] (fun _=>stuck):=by
 obtain ⟨C,f,fd,h1,_,h2,h3,F⟩:=h.ex
 exact ⟨C,f,fd,ps,[],[],h1,h2,h3,hn,⟨fun vs H Q E h=>h.1,fun A outer s H args us vs Q E hr he hb hv hs=>by obtain ⟨_,_,_,_,_,_,_,q⟩:=hs;exact q.elim⟩,F.binds bind, .nil,fun _ _ => .nil⟩
structure HasI (K:PySem.W.Frag) (mg:Str→Option Value) (cls qual:Str) (st:Stmt):Prop where
 ex:∃ C f fd,PySem.W.nsIn K mainGlobals cls=some (some (.ref C))∧mg cls=some (.ref C)∧Mk K C f∧Fun K "__init__" qual st f fd
theorem zmL.of {cls qual:Str} {st:Stmt} {N ps:List Str} {k:Nat} {b:MS} (h:HasI K mg cls qual st) (S:zao N ps (zaa st))
  (bind:∀ (kV doc pm:Value) (an:Option Addr) (cdv ct:Value) (us:List Value),us.length=ps.length→bindArgs (PySem.W.fnOf "__init__" qual (zap st) (zag st) (zaa st) .none kV doc pm an cdv ct) ⟨us,[]⟩ = pure (ps.zip us))
  (hbody:∀ (f:Addr) (cdv:Value) (A:Around) (outer:List Env) (s:Shared) (H:Hp) (E:XK),Room k (A.deeper (envOfC qual (zaa st) s.heap.objs.size f cdv)) →
   VSs (cxX P w K mg base N qual (zaa st) f cdv A outer s H E) (fun _=>E) (zag st) b):zmL P w K mg base cls (k + 1) ps.length (fnF N.length b):=by
 obtain ⟨C,f,fd,h1,h2,h3,F⟩:=h.ex
 exact ⟨C,f,fd,ps,h1,h2,h3,rfl,zga F S hbody,F.binds bind⟩
structure HasB (K:PySem.W.Frag) (mg:Str→Option Value) (rk m qual:Str) (st:Stmt):Prop where
 ex:∃ R f fd,mg rk=some (.ref R)∧znb K R m f∧Fun K m qual st f fd
theorem zl1.of {rk m qual:Str} {st:Stmt} {N ps:List Str} {k:Nat} {b:MS} (h:HasB K mg rk m qual st) (S:zao N ps (zaa st))
  (bind:∀ (kV doc pm:Value) (an:Option Addr) (cdv ct:Value) (us:List Value),us.length=ps.length→bindArgs (PySem.W.fnOf m qual (zap st) (zag st) (zaa st) .none kV doc pm an cdv ct) ⟨us,[]⟩ = pure (ps.zip us))
  (hbody:∀ (f:Addr) (cdv:Value) (A:Around) (outer:List Env) (s:Shared) (H:Hp) (E:XK),Room k (A.deeper (envOfC qual (zaa st) s.heap.objs.size f cdv)) →
   VSs (cxX P w K mg base N qual (zaa st) f cdv A outer s H E) (fun _=>E) (zag st) b):zl1 P w K mg base rk m (k + 1) ps.length (fnF N.length b):=by
 obtain ⟨R,f,fd,h1,h2,F⟩:=h.ex
 exact ⟨R,f,fd,ps,h1,h2,rfl,zga F S hbody,F.binds bind⟩
end
end V2
namespace M
open PySem V2
end M
namespace V2
open PySem PySem.Spec PyProof.Rows L2
section
variable {X:Cx} {W:WX}
end
def Itz (K:PySem.W.Frag) (a b:Addr):It :=
 ⟨fun i H=>∃ xs ys x y,SqL K H a xs∧SqL K H b ys∧xs[i]? = some x∧ys[i]? = some y,fun i H x H'=>∃ p y z,H p=none∧H'=upd H p (.tup [y,z])∧x = .ref p∧(∀ xs,SqL K H a xs→xs[i]? = some y)∧(∀ ys,SqL K H b ys→ys[i]? = some z),
  fun i H=>∃ xs ys,SqL K H a xs∧SqL K H b ys∧(xs.length ≤ i∨ys.length ≤ i)⟩
theorem Inv.zeH {X:Cx} {pins:List (Addr × Obj)} {σ:L2.St} {H:Hp} {s:Shared} {h':Heap} {t':Nat} {ch:List Addr} (I:Inv X pins σ H s) (k:∀ b o,b ∉ ch→s.heap.get? b=some o→h'.get? b=some o) (hf:∀ b ∈ ch,FpOk X pins H b):Inv X pins σ H { s with heap:=h',toks:=t' }:=by
 have ne:∀ b u,H b=some u→b ∉ ch:=fun b u q z=>by rw [(hf b z).1] at q;cases q
 refine I.step (g':=s.gens) (d':=s.drawn) (ch:=ch) (fun b hb=>?_) (fun b o _ _ hc q _=>k b o hc q) (fun b o _ _ hc q _=>⟨o.slots,k b o hc q⟩) (fun _ _ _ _ n=>n)
  (fun b o hc q=>⟨o,k b o hc q⟩) (fun _ _ q=>q) (fun _ _ _ q=>q) (fun b ps q=>⟨#[],by rw [q];simp⟩) (fun m hm=>?_) (fun b u q=>?_) I.bare
 ·obtain ⟨a0,a1,a2,a3,a4,a5⟩:=hf b hb
  exact ⟨a3,a1,a4,a5⟩
 ·obtain ⟨o,es,ep,ho,r⟩:=hm
  exact ⟨o,es,ep,k _ o (fun z=>(hf _ z).2.1 rfl) ho,r⟩
 ·refine (I.hok b u q).stay (fun c v hc q'=>k c v ?_ q') (fun _ q=>q) fun _ _ q=>q
  rcases hc with z | z
  ·rw [z];exact ne b u q
  ·exact ne c _ z
theorem zdq {h:Heap} {x y:Addr} {o1 o2:Obj} (h1:h.get? x=some o1) (h2:h.get? y=some o2) (hc:o1.cls ≠ o2.cls):x ≠ y:=fun e=>by
 subst e;rw [h1] at h2;cases h2;exact hc rfl
theorem ze9 {h:Heap} {a b z TI TO i1 i2:Addr} {xs ys:Array Value} {u v:Value} {i:Nat} (hd : [z,TI,TO,i1,i2].Nodup) (hz:IsZip h z TI TO .none) (hTO:IsPair h TO u v) (h1:h.IsListIter i1 a i) (h2:h.IsListIter i2 b i) (l1:h.IsList a xs) (l2:h.IsList b ys):ZipApart z TI TO i1 i2 a b:=by
 obtain ⟨o1,q1,c1,d1⟩:=h1
 obtain ⟨o2,q2,c2,d2⟩:=h2
 obtain ⟨p1,r1,e1,_⟩:=l1
 obtain ⟨p2,r2,e2,_⟩:=l2
 simp only [List.nodup_cons,List.mem_cons,List.not_mem_nil,or_false,not_or,not_false_eq_true,List.nodup_nil,and_true] at hd
 obtain ⟨⟨n1,n2,n3,n4⟩,⟨n5,n6,n7⟩,⟨n8,n9⟩,n10⟩:=hd
 exact ⟨Ne.symm n1,Ne.symm n2,Ne.symm n3,Ne.symm n4,n5,n6,n7,n8,n9,n10,
  zdq r1 hz (by rw [e1];show Value.type "list" ≠ Value.type "zip";decide),zdq r1 hTO (by rw [e1];show Value.type "list" ≠ Value.type "tuple";decide),zdq r1 q1 (by rw [e1,c1];decide),zdq r1 q2 (by rw [e1,c2];decide),
  zdq r2 hz (by rw [e2];show Value.type "list" ≠ Value.type "zip";decide),zdq r2 hTO (by rw [e2];show Value.type "list" ≠ Value.type "tuple";decide),zdq r2 q1 (by rw [e2,c1];decide),zdq r2 q2 (by rw [e2,c2];decide)⟩
theorem zjs {P:Program} {w:World} {K:PySem.W.Frag} {elts:List Expr} {x1:Nat} {tp:Pos} (a b z TI TO i1 i2:Addr) (hd : [z,TI,TO,i1,i2].Nodup) :
  Turn P w K (.Tuple elts x1 tp) (Itz K a b) [z,TI,TO,i1,i2] z (fun i h=>IsZip h z TI TO .none∧IsPair h TI (.ref i1) (.ref i2)∧(∃ u v,IsPair h TO u v)∧h.IsListIter i1 a i∧h.IsListIter i2 b i) where
 mem:=by simp
 obj:=fun i h st c hc=>by
  obtain ⟨s1,s2,⟨u,v,s3⟩,⟨o1,q1,c1,d1⟩,⟨o2,q2,c2,d2⟩⟩:=st
  simp only [List.mem_cons,List.not_mem_nil,or_false] at hc
  rcases hc with e | e | e | e | e <;> subst e
  ·exact ⟨_,s1,fun v z=>by cases z⟩
  ·exact ⟨_,s2,fun v z=>by cases z⟩
  ·exact ⟨_,s3,fun v z=>by cases z⟩
  ·exact ⟨o1,q1,fun v z=>by rw [d1] at z;cases z⟩
  ·exact ⟨o2,q2,fun v z=>by rw [d2] at z;cases z⟩
 keep:=fun i h h' st k=>⟨k z (by simp) _ st.1,k TI (by simp) _ st.2.1,let ⟨u,v,q⟩:=st.2.2.1; ⟨u,v,k TO (by simp) _ q⟩,st.2.2.2.1.at fun o q=>k i1 (by simp) o q,st.2.2.2.2.at fun o q=>k i2 (by simp) o q⟩
 item:=by
  intro X hP hw hK hc i pins s σ H E I hf st hg
  subst hP hw hK
  obtain ⟨s1,s2,⟨u0,v0,s3⟩,s4,s5⟩:=st
  obtain ⟨xs,ys,x,y,hq1,hq2,hx,hy⟩:=hg
  obtain ⟨its1,rv1,p1,_⟩:=I.list hq1
  obtain ⟨its2,rv2,p2,_⟩:=I.list hq2
  obtain ⟨u,hu,ru⟩:=rv1.get hx
  obtain ⟨v,hv,rv⟩:=rv2.get hy
  have D:=ze9 hd s1 s3 s4 s5 p1.isList p2.isList
  have hsz:z < s.heap.objs.size:=Heap.lt_size s1
  have hst:TO < s.heap.objs.size:=Heap.lt_size s3
  have hsT:TI < s.heap.objs.size:=Heap.lt_size s2
  have hs1:i1 < s.heap.objs.size:=let ⟨_,q,_⟩:=s4;Heap.lt_size q
  have hs2:i2 < s.heap.objs.size:=let ⟨_,q,_⟩:=s5;Heap.lt_size q
  refine wpAny_pyNext_zip_item D s1 s2 s3 s4 s5 p1.isList p2.isList (x:=u) (y:=v) (by simpa using hu) (by simpa using hv) fun h1 a1 a2 a3 a4 a5 a6 a7=>?_
  refine ⟨_,rfl,wpAny_letOwnedTupleGo_zip (s:={ s with heap:=h1 }) a1 fun h2 e2 sb=>?_⟩
  have hp0:H s.heap.objs.size=none:=I.hok.fresh (Nat.le_refl _)
  have k2:∀ c o,c ∉ [z,TO,i1,i2]→s.heap.get? c=some o→h2.get? c=some o:=fun c o hc q=>by
   simp only [List.mem_cons,List.not_mem_nil,or_false,not_or] at hc
   exact sb.extBut c o hc.1 (a7 c o hc.1 hc.2.1 hc.2.2.1 hc.2.2.2 q)
  have hf':∀ c ∈ [z,TO,i1,i2],FpOk X pins H c:=fun c hc=>hf c (by
   simp only [List.mem_cons,List.not_mem_nil,or_false] at hc ⊢
   rcases hc with e | e | e | e <;> simp [e])
  have t2:h2.get? s.heap.objs.size=some { cls := .type "tuple",data := .seq #[u,v] }:=sb.extBut _ _ (Nat.ne_of_gt hsz) a5
  have I1:Inv X pins σ H { s with heap:=h2 }:=Inv.zeH (t':=s.toks) I k2 hf'
  have hok:HOk X.prog X.w (upd H s.heap.objs.size (.tup [x,y])) h2:=by
   refine fun b o q=>?_
   by_cases eb:b=s.heap.objs.size
   ·subst eb
    rw [zas] at q
    cases q
    exact ⟨by show 2 ≤ sizeLine;decide,[u,v], .cons ru (.cons rv .nil),⟨_,t2,rfl,_,rfl⟩⟩
   ·rw [zah eb] at q
    exact (I1.hok b o q).stay (fun c v _ z=>z) (fun c z=>by rw [zah (zan z hp0)];exact z) fun c xs z=>by rw [zah (zan z hp0)];exact z
  have fp:FpOk X pins H s.heap.objs.size:=I.fpOk (Nat.le_refl _) hp0
  have h0:X.s₀.heap.get? s.heap.objs.size=none:=by
   cases q:X.s₀.heap.get? s.heap.objs.size with
   | none=>rfl
   | some ob=>exact absurd (Nat.lt_of_lt_of_le (Heap.lt_size q) I.sz) (Nat.lt_irrefl _)
  have I2:Inv X pins σ (upd H s.heap.objs.size (.tup [x,y])) { s with heap:=h2 }:=Inv.zkA I1 hp0 h0 fp.2.1 fp.2.2.2.2.1 fp.2.2.2.2.2 hok
  refine ⟨.ref s.heap.objs.size,_,I2,rfl,⟨_,x,y,hp0,rfl,rfl,fun ys hy=>by rw [I.zdz hy hq1];exact hx,fun zs hz=>by rw [I.zdz hz hq2];exact hy⟩,
   ⟨e2,k2 TI _ (by simp only [List.mem_cons,List.not_mem_nil,or_false,not_or];exact ⟨D.TIz,D.TITO,D.TIi1,D.TIi2⟩) s2,⟨u,v,sb.extBut _ _ D.TOz a2⟩,a3.extBut sb.extBut D.i1z,a4.extBut sb.extBut D.i2z⟩,fun c hc=>?_⟩
  have hc2:=(hf c hc).1
  have hlt:c < s.heap.objs.size:=by
   simp only [List.mem_cons,List.not_mem_nil,or_false] at hc
   rcases hc with e | e | e | e | e <;> subst e <;> assumption
  rw [zah (Nat.ne_of_lt hlt)];exact hc2
 done:=by
  intro X hP hw hK hc i pins s σ H E I hf st hg
  subst hP hw hK
  obtain ⟨s1,s2,⟨u0,v0,s3⟩,s4,s5⟩:=st
  obtain ⟨xs,ys,hq1,hq2,hx⟩:=hg
  obtain ⟨its1,rv1,p1,_⟩:=I.list hq1
  obtain ⟨its2,rv2,p2,_⟩:=I.list hq2
  have D:=ze9 hd s1 s3 s4 s5 p1.isList p2.isList
  have l1:=rv1.length
  have l2:=rv2.length
  have hf':∀ c ∈ [z,TO,i1,i2],FpOk X pins H c:=fun c hc=>hf c (by
   simp only [List.mem_cons,List.not_mem_nil,or_false] at hc ⊢
   rcases hc with e | e | e | e <;> simp [e])
  refine wpAny_pyNext_zip_end (I.ok.hd hc) D s1 s2 s3 s4 s5 p1.isList p2.isList (by
   rcases hx with q | q
   ·left;simp;omega
   ·right;simp;omega) fun h' hk=>⟨rfl,Inv.zeH (t':=s.toks) I (fun c o hc q=>by
    simp only [List.mem_cons,List.not_mem_nil,or_false,not_or] at hc
    exact hk c o hc.1 hc.2.1 hc.2.2.1 hc.2.2.2 q) hf'⟩
 self:=fun _ _ _ _ _ st h=>wpAny_pyIter_zip st.1 h
section
variable {X:Cx} {W:WX} {pos:Pos}
def zipA:List A→List A→List A
 | x :: xs,y :: ys => .tup [x,y] :: zipA xs ys
 | _,_=>[]
theorem zip_get:∀ (i:Nat) (xs ys:List A),(zipA xs ys)[i]? = match xs[i]?,ys[i]? with | some x,some y=>some (.tup [x,y]) | _,_=>none
 | _,[],ys=>by simp [zipA]
 | i,x :: xs,[]=>by cases h:(x :: xs)[i]? <;> simp [zipA]
 | 0,x :: xs,y :: ys=>by simp [zipA]
 | i + 1,x :: xs,y :: ys=>by simpa [zipA] using zip_get i xs ys
theorem zdU:∀ (xs ys:List A),(zipA xs ys).length=min xs.length ys.length
 | [],ys=>by simp [zipA]
 | x :: xs,[]=>by simp [zipA]
 | x :: xs,y :: ys=>by simp [zipA,zdU xs ys]
def zipSrc (a b:A) (ds es:List A):Src:=⟨zipA ds es,fun Ω=>zaj Ω a=some ds∧zaj Ω b=some es⟩
theorem zkt {K:PySem.W.Frag} {G:Hp} {ι:List Addr} {p p2:Addr} {a b:A} {ds es:List A} (d:Den K G ι (.ref p) a) (d2:Den K G ι (.ref p2) b):ItV K G ι (Itz K p p2) (zipSrc a b ds es):=by
 have key:∀ {a:A} {p:Addr} {ds:List A},Den K G ι (.ref p) a→∀ G' ι' Ω' H',Ext G ι G' ι'→Wd K G' ι' Ω' H'→zaj Ω' a=some ds→∃ xs,SqL K H' p xs∧DenL K G' ι' xs ds:=fun d G' ι' Ω' H' e w h=>by
  obtain ⟨q,xs,h1,h2,h3⟩:=zaF w (d.ext e) h
  cases h1
  exact ⟨xs,h2,h3⟩
 refine ⟨fun G' ι' Ω' H' e w h i hi=>?_,fun G' ι' Ω' H' e w h i hi=>?_,fun G' ι' Ω' H' e w h i x H2 y hy hd=>?_⟩
 ·obtain ⟨xs,h2,h3⟩:=key d G' ι' Ω' H' e w h.1
  obtain ⟨ys,h4,h5⟩:=key d2 G' ι' Ω' H' e w h.2
  have hl:i < min ds.length es.length:=by rw [← zdU];exact hi
  have l1:i < xs.length:=by rw [h3.length];omega
  have l2:i < ys.length:=by rw [h5.length];omega
  exact ⟨xs,ys,xs[i],ys[i],h2,h4,List.getElem?_eq_getElem l1,List.getElem?_eq_getElem l2⟩
 ·obtain ⟨xs,h2,h3⟩:=key d G' ι' Ω' H' e w h.1
  obtain ⟨ys,h4,h5⟩:=key d2 G' ι' Ω' H' e w h.2
  have hl:min ds.length es.length ≤ i:=by rw [← zdU];exact hi
  exact ⟨xs,ys,h2,h4,by rw [h3.length,h5.length];omega⟩
 ·obtain ⟨xs,h2,h3⟩:=key d G' ι' Ω' H' e w h.1
  obtain ⟨ys,h4,h5⟩:=key d2 G' ι' Ω' H' e w h.2
  obtain ⟨q,z,z2,e1,e2,e3,e4,e5⟩:=hd
  subst e2 e3
  have hy':(zipA ds es)[i]? = some y:=hy
  rw [zip_get] at hy'
  cases ed:ds[i]? with
  | none=>rw [ed] at hy';cases hy'
  | some d' =>
   cases ee:es[i]? with
   | none=>rw [ed,ee] at hy';cases hy'
   | some d'' =>
    rw [ed,ee] at hy'
    cases hy'
    obtain ⟨z',q1,q2⟩:=h3.get ed
    rw [e4 xs h2] at q1
    cases q1
    obtain ⟨z'',q3,q4⟩:=h5.get ee
    rw [e5 ys h4] at q3
    cases q3
    refine ⟨upd G' q (.tup [z,z2]),Ext.new (w.zcM e1) _,w.new e1 _,?_⟩
    simp only [Den]
    exact ⟨q,[z,z2],rfl,zas, .cons (q2.ext (Ext.new (w.zcM e1) _)) (.cons (q4.ext (Ext.new (w.zcM e1) _)) .nil)⟩
end
end V2
namespace V2
open PySem PySem.Spec PyProof.Rows L2
section
variable {X:Cx} {W:WX}
end
end V2
namespace M
open PySem V2
end M
namespace V2
open PySem PySem.Spec PyProof.Rows L2
section
variable {X:Cx} {pins:List (Addr × Obj)} {σ:L2.St} {H:Hp} {s:Shared}
theorem zhw {h:Heap} {L:Addr} {m m':Str→Option Value} (a:h.Ns L m) (b:h.Ns L m'):m=m':=by
 obtain ⟨o,es,ep,h1,h2,_,h3⟩:=a
 obtain ⟨o',es',ep',h1',h2',_,h3'⟩:=b
 rw [h1] at h1';cases h1'
 rw [h2] at h2';cases h2'
 funext x
 rw [← h3,← h3']
theorem Inv.frm (I:Inv X pins σ H s):∃ m,s.heap.Ns X.env.locals m∧Fr X.base X.env.locals s.heap m :=
 let ⟨m,hn,_⟩:=I.loc
 ⟨m,hn,hn,I.bk,Nat.le_trans I.ok.bsz I.ok.above⟩
theorem Inv.led (I:Inv X pins σ H s) {h':Heap} {m:Str→Option Value} {news:List (Addr × Obj)} (F:Fr X.base X.env.locals h' m) (N:News X.base X.env.locals h' news) (hN:∀ p ∈ zdH X.base s.heap X.env.locals,p ∈ news) :
  ∀ b o,b ≠ X.env.locals→s.heap.get? b=some o→h'.get? b=some o:=fun b o h1 e=>by
 cases q:X.base.get? b with
 | some u =>
  have:=I.bk b u q
  rw [e] at this;cases this
  exact F.keep b _ q
 | none=>exact (N (b,o) (hN _ (zfS h1 q e))).1
theorem Inv.zj9 (I:Inv X pins σ H s) {h':Heap} {m:Str→Option Value} {t':Nat} (hm:s.heap.Ns X.env.locals m) (F:Fr X.base X.env.locals h' m) (k:∀ b o,b ≠ X.env.locals→s.heap.get? b=some o→h'.get? b=some o) :
  Inv X pins σ H { s with heap:=h',toks:=t' }:=by
 have nL:∀ b u,H b=some u→b ≠ X.env.locals:=fun b u e z=>by rw [z,I.free] at e;cases e
 refine I.step (g':=s.gens) (d':=s.drawn) (ch:=[]) (fun _ z=>nomatch z) (fun b o hL _ _ e _=>k b o hL e) (fun b o hL _ _ e _=>⟨o.slots,k b o hL e⟩) (fun _ _ _ _ n=>n) (fun b o _ e=>?_) (fun _ _ e=>e) (fun _ _ _ e=>e) (fun b ps e=>⟨#[],by rw [e];simp⟩) (fun m' hm'=>?_) (fun b u e=>?_) I.bare
 ·by_cases hL:b=X.env.locals
  ·subst hL
   obtain ⟨o',_,_,h1,_⟩:=F.ns
   exact ⟨o',h1⟩
  ·exact ⟨o,k b o hL e⟩
 ·rw [← zhw hm hm'];exact F.ns
 ·refine (I.hok b u e).stay (fun c v hc q=>k c v ?_ q) (fun _ q=>q) fun _ _ q=>q
  rcases hc with z | z
  ·rw [z];exact nL b u e
  ·exact nL c _ z
theorem Inv.znz (I:Inv X pins σ H s) {h':Heap} {m:Str→Option Value} {t':Nat} {a:Addr} {o:HO} (hm:s.heap.Ns X.env.locals m) (F:Fr X.base X.env.locals h' m) (k:∀ b o,b ≠ X.env.locals→s.heap.get? b=some o→h'.get? b=some o) (ha:s.heap.objs.size ≤ a)
  (new:zbB X.prog X.w (upd H a o) h' a o):Inv X pins σ (upd H a o) { s with heap:=h',toks:=t' }:=by
 have nL:∀ b u,H b=some u→b ≠ X.env.locals:=fun b u e z=>by rw [z,I.free] at e;cases e
 have fr:H a=none:=I.hok.fresh ha
 have na:∀ b u,H b=some u→b ≠ a:=fun b u e z=>by rw [z,fr] at e;cases e
 have up:∀ b,b ≠ a→upd H a o b=H b:=fun b h=>by simp [upd,h]
 refine I.step (g':=s.gens) (d':=s.drawn) (ch:=[]) (fun _ z=>nomatch z) (fun b o hL _ _ e _=>k b o hL e) (fun b o hL _ _ e _=>⟨o.slots,k b o hL e⟩) (fun b o' _ e n=>?_) (fun b o' _ e=>?_) (fun b xs e=>?_) (fun b u v e=>?_) (fun b ps e=>⟨#[],?_⟩) (fun m' hm'=>?_) (fun b u e=>?_) I.bare
 ·rw [up b (Nat.ne_of_lt (Nat.lt_of_lt_of_le (Heap.lt_size e) ha))];exact n
 ·by_cases hL:b=X.env.locals
  ·subst hL
   obtain ⟨o',_,_,h1,_⟩:=F.ns
   exact ⟨o',h1⟩
  ·exact ⟨o',k b o' hL e⟩
 ·rw [up b (na b _ e)];exact e
 ·rw [up b (na b _ e)];exact e
 ·rw [up b (na b _ e),e];simp
 ·rw [← zhw hm hm'];exact F.ns
 ·by_cases hb:b=a
  ·subst hb
   have:upd H b o b=some o:=by simp [upd]
   rw [this] at e;cases e
   exact new
  ·rw [up b hb] at e
   refine (I.hok b u e).stay (fun c v hc q=>k c v ?_ q) (fun c q=>?_) fun c xs q=>?_
   ·rcases hc with z | z
    ·rw [z];exact nL b u e
    ·exact nL c _ z
   ·rw [up c (na c _ q)];exact q
   ·rw [up c (na c _ q)];exact q
end
theorem zfC:∀ {ys:List Str} {its:List Value},Vals (ys.map V.str) its→StrsAre its ys
 | [],_, .nil => .nil
 | y :: ys,_, .cons r1 r2=>by
  obtain ⟨t,rfl⟩:=r1
  exact .cons y t (zfC r2)
theorem zfk:∀ {l:List (Str × Tok)},Vals ((l.map fun x=>x.1).map V.str) (strValues l)
 | [] => .nil
 | (x,t) :: l => .cons ⟨t,rfl⟩ zfk
def sumL (ys:List Str):Nat:=(ys.map fun x=>x.length).sum
section
variable {X:Cx} {W:WX}
def rJoin (K:PySem.W.Frag):V→List V→Hp→VK→Prop:=fun x vs H Q=>∃ z p,∃ ys:List Str,x = .str z∧vs=[.ref p]∧SqL K H p (ys.map V.str)∧sumL ys + ys.length * z.length ≤ 16777216∧Q (.str (Txt.join z ys)) H
theorem zeD:MtM X "str.join" (rJoin X.K):=by
 intro pins s σ H x vs v us Q I rx rv h
 obtain ⟨z,p,ys,rfl,rfl,hq,hz,q⟩:=h
 obtain ⟨t,rfl⟩:=rx
 obtain ⟨u,rfl,ru⟩:=rv.one
 cases ru
 obtain ⟨its,r,pl,_⟩:=I.list hq
 exact join_list pl.isList (by simpa using zfC r) hz fun t' k=>⟨.str _,H,I.tok _,⟨_,rfl⟩,q⟩
def zj6:V→List V→Hp→VK→Prop:=fun x vs H Q=>∃ z y,x = .str z∧vs=[.str y]∧(y.length == 0)=false∧z.length + 2 ≤ sizeLine∧∀ l,H l=none→Q (.ref l) (upd H l (.lst ((Txt.split z y).map V.str)))
theorem zgS:MtM X "str.split" zj6:=by
 intro pins s σ H x vs v us Q I rx rv h
 obtain ⟨z,y,rfl,rfl,hy,hz,q⟩:=h
 obtain ⟨t,rfl⟩:=rx
 obtain ⟨u,rfl,ru⟩:=rv.one
 obtain ⟨t',rfl⟩:=ru
 obtain ⟨m,hm,F⟩:=Inv.frm I
 refine splitN1A F zep hy (fun l h' k hl _ _ hi F' N'=>?_) hz
 have kk:=Inv.led I F' N' fun p hp=>List.mem_cons_of_mem _ hp
 have hlen:(Txt.split z y).length ≤ sizeLine:=Nat.le_trans (split_le z y) hz
 refine ⟨.ref s.heap.objs.size,_,Inv.znz I (t':=k) (o := .lst ((Txt.split z y).map V.str)) hm F' kk (Nat.le_refl _) ?_,rfl,q _ (I.hok.fresh (Nat.le_refl _))⟩
 exact ⟨by simpa using hlen,strValues l,0,by rw [← hl];exact zfk,(N' _ (List.mem_cons_self ..)).1⟩
def ziG:V→List V→Hp→VK→Prop:=fun x vs H Q=>∃ z y,x = .str z∧vs=[.str y]∧Q (.bl (Txt.startswith z y)) H
theorem zeS:MtM X "str.startswith" ziG:=by
 intro pins s σ H x vs v us Q I rx rv h
 obtain ⟨z,y,rfl,rfl,q⟩:=h
 obtain ⟨t,rfl⟩:=rx
 obtain ⟨u,rfl,ru⟩:=rv.one
 obtain ⟨t',rfl⟩:=ru
 exact SC.startswith ⟨.bl _,H,I,rfl,q⟩
theorem ze3:zcm X (.type "int") (fun xs H Q=>∃ z n,xs=[.str z]∧PySem.intText? z=some n∧z.length ≤ 640∧Q (.int n) H):=by
 intro pins s σ H xs us Q I r h
 obtain ⟨z,n,rfl,hn,hz,q⟩:=h
 obtain ⟨u,rfl,ru⟩:=vals1 r
 obtain ⟨t,rfl⟩:=ru
 exact PySem.W.KIN.call_text hn hz ⟨.int n,H,I.tok _,⟨_,rfl⟩,q⟩
theorem zd8:∀ {bs:List Bool} {its:List Value},Vals (bs.map V.bl) its→LSm.BoolsAre its bs
 | [],_, .nil => .nil
 | b :: bs,_, .cons r1 r2=>by
  cases (show _=Value.bool b from r1)
  exact .cons b (zd8 r2)
theorem zd6 (hc:X.calm=true):zcm X (.builtin "all") (fun xs H Q=>∃ p,∃ bs:List Bool,xs=[.ref p]∧SqL X.K H p (bs.map V.bl)∧Q (.bl (bs.all id)) H):=by
 intro pins s σ H xs us Q I r h
 obtain ⟨p,bs,rfl,hq,q⟩:=h
 obtain ⟨u,rfl,ru⟩:=vals1 r
 cases ru
 obtain ⟨its,r',pl,_⟩:=I.list hq
 obtain ⟨m,hm,F⟩:=Inv.frm I
 refine LSm.all_bools F zep (I.ok.hd hc) pl.isList (zd8 r') fun h' tk F' N'=>?_
 exact ⟨.bl _,H,Inv.zj9 I hm F' (Inv.led I F' N' fun p hp=>hp),rfl,q⟩
end
end V2
namespace L2
open PySem PySem.Spec PyProof.Rows
section
variable {prog:Program} {w:World} {A:Around} {E:Value→Shared→Prop} {s:Shared}
theorem zfZ {Q:List Value→Shared→Prop} {I l:Addr} {items:Array Value} (hh:A.handled=none) (hne:l ≠ I) (hit:s.heap.IsRevIter I l ((items.size:Int) - 1)) (hl:s.heap.IsList l items) (hn:items.size ≤ sizeLine)
  (hQ:∀ h' tk acc',(∀ b o,b ≠ I→s.heap.get? b=some o→h'.get? b=some o)→ItemsOf (fun i v=>items[items.size - 1 - i]? = some v) acc' items.size→Q acc'.toList { s with heap:=h',toks:=tk }) :
  wpAny (model prog w) A (collect (.ref I)) Q E s:=by
 have hS:(s.heap.push { cls := .type "list",data := .seq #[] }).get? s.heap.objs.size=some { cls := .type "list",data := .seq #[] }:=Heap.get?_push_size _ rfl
 obtain ⟨oI,hoI,_⟩:=id hit
 obtain ⟨ol,hol,_⟩:=id hl
 have hSI:s.heap.objs.size ≠ I:=Ne.symm (Nat.ne_of_lt (Heap.lt_size hoI))
 have hSl:s.heap.objs.size ≠ l:=Ne.symm (Nat.ne_of_lt (Heap.lt_size hol))
 have oth:∀ b o,s.heap.get? b=some o→(s.heap.push { cls := .type "list",data := .seq #[] }).get? b=some o:=fun b o e=>Heap.get?_push_of_some _ e
 have key:∀ K:Value→Shared→Prop,(∀ h' tk acc' c',(∀ b o,b ≠ I→s.heap.get? b=some o→h'.get? b=some o)→h'.get? s.heap.objs.size=some { cls := .type "list",dict:=none,data := .seq acc' c',slots:=#[] }→ItemsOf (fun i v=>items[items.size - 1 - i]? = some v) acc' items.size→K (.ref s.heap.objs.size) { s with heap:=h',toks:=tk }) →
   wpAny (model prog w) A (runValue (Code.builtin "proto.collect" { pos:=[.ref I] })) K E s:=fun K hK=>by
  refine wpAny_runValue (codeAny_builtin F.entry_proto_collect ?_)
  show wpAny _ _ (newList [] >>= fun y=>again (Code.builtin "list.__iadd__" { pos:=[y, .ref I] })) _ _ _
  refine wpAny_bind (wpAny_newList ?_)
  refine wpAny_pure ⟨plainId_quiet F.plain_list_iadd _,codeAny_builtin F.entry_list_iadd ?_⟩
  rw [Around.under_plainId F.plain_list_iadd]
  show wpAny _ _ (Builtin.List.listExtendWith (.ref s.heap.objs.size) (.ref I) (.ref s.heap.objs.size)) _ _ _
  exact zha (A:=A) (R:=fun r s'=>match r with | .ok (.ret v)=>K v s' | .ok _=>False | .error e=>E e s') (s:={ s with heap:=s.heap.push { cls := .type "list",data := .seq #[] } }) (.ref s.heap.objs.size) 0 hh hne hSI hSl (hit.at fun o e=>oth I o e) (hl.at fun o e=>oth l o e) hn hS fun h' tk acc' c' hk hS' hacc =>
   hK h' tk acc' c' (fun b o hb e=>hk b o (Nat.ne_of_lt (Heap.lt_size e)) hb (oth b o e)) hS' hacc
 unfold collect
 refine wpAny_bind (key _ fun h' tk acc' c' hk hS' hacc=>?_)
 exact wpAny_bind (wpAny_load hS' (wpAny_pure (hQ h' tk acc' hk hacc)))
theorem zhL {Q:Value→Shared→Prop} (sep:Str):∀ (lr:List (Str × Tok)),JoinOk sep (lr.map fun x=>x.1)=true→(joinMade sep lr).post Q s →
  wpAny (model prog w) A.in1 (joinTail sep (strValues lr)) (fun fin s'=>match fin with | .done f=>wants Q E (.ok f) s' | .again c'=>c'.quiet=true∧codeAny (model prog w) A c' (wants Q E) s') (fun e s'=>wants Q E (.error e) s') s
 | [],hfit,fin=>gives_joinTail sep [] (by simpa [JoinOk] using hfit) prog w A _ _ fin
 | [p],hfit,fin=>gives_joinTail sep [p] (by simpa [JoinOk] using hfit) prog w A _ _ fin
 | p :: q :: r,hfit,fin=>gives_joinTail sep (p :: q :: r) (by simpa [JoinOk] using hfit) prog w A _ _ fin
theorem zes {Q:Value→Shared→Prop} {I l:Addr} {sep:Str} {t:Tok} {ls:List (Str × Tok)} (hh:A.handled=none) (hne:l ≠ I) (hit:s.heap.IsRevIter I l ((ls.length:Int) - 1)) (hl:s.heap.IsList l (strValues ls).toArray) (hn:ls.length ≤ sizeLine)
  (hz:((ls.map fun x=>x.1.length).sum) + ls.length * sep.length ≤ 16777216)
  (hQ:∀ h' tk t',(∀ b o,b ≠ I→s.heap.get? b=some o→h'.get? b=some o)→Q (.str (Txt.join sep (ls.map fun x=>x.1).reverse) t') { s with heap:=h',toks:=tk }) :
  wpAny (model prog w) A (call (.builtin "str.join") [.str sep t, .ref I]) Q E s:=by
 have hT:s.TypeIs (.ref I) "list_reverseiterator":=hit.typeIs
 refine call_meets (S:=fun A' R s'=>∀ prog w,wpAny (model prog w) A'.in1 (Builtin.«str.join» { pos:=[.str sep t, .ref I] }) (fun fin s'=>match fin with | .done f=>R (.ok f) s' | .again c'=>c'.quiet=true∧codeAny (model prog w) A' c' R s') (fun e s'=>R (.error e) s') s')
  F.slot_str_join (typeIs_str s sep t) F.entry_str_join (F.args_str_join_2 _ _) (fun prog w A R s h=>h prog w) fun prog w=>?_
 rw [join_tree_other]
 refine wpAny_bind (wpAny_typeOf hT ?_)
 have h2:(Value.type "list_reverseiterator" == Value.type "list")=false:=by decide
 have h3:(Value.type "list_reverseiterator" == Value.type "tuple")=false:=by decide
 simp only [h2,h3,Bool.or_false,Bool.false_eq_true,if_false]
 refine wpAny_bind (wpAny_tryCatch (wpAny_pyIter_revIter hit ?_))
 have hsz:(strValues ls).toArray.size=ls.length:=by simp [strValues]
 refine wpAny_bind (zfZ (A:=A.in1) (items:=(strValues ls).toArray) hh hne (by rw [hsz];exact hit) hl (by rw [hsz];exact hn) fun h' tk acc' hk hacc=>?_)
 have hrev:acc'.toList=strValues ls.reverse:=by
  have e:strValues ls.reverse=(strValues ls).reverse:=by simp [strValues]
  rw [e]
  apply List.ext_getElem?
  intro j
  have hs1:acc'.size=ls.length:=by rw [hacc.1,hsz]
  have hs2:(strValues ls).length=ls.length:=by simp [strValues]
  by_cases hj:j < ls.length
  ·have h1:acc'[j]? = some (acc'[j]'(by omega)):=Array.getElem?_eq_getElem (by omega)
   have h2:=hacc.2 j _ h1
   rw [List.getElem?_reverse (by omega),Array.getElem?_toList,h1,← h2,hsz,hs2]
   simp
  ·rw [List.getElem?_eq_none (by rw [Array.length_toList];omega),List.getElem?_eq_none (by rw [List.length_reverse];omega)]
 rw [hrev]
 have hm:ls.reverse.map (fun x=>x.1)=(ls.map fun x=>x.1).reverse:=by simp
 have hfit:JoinOk sep (ls.reverse.map fun x=>x.1)=true:=joinOk_of (by
  rw [hm,List.map_reverse,List.sum_reverse,List.length_reverse,List.length_map,List.map_map]
  exact hz)
 have fin:(joinMade sep ls.reverse).post Q { s with heap:=h',toks:=tk }:=post_join ls.reverse ⟨joinOk_length hfit,fun t' k=>by rw [hm];exact hQ h' k t' hk⟩
 exact zhL sep ls.reverse hfit fin
end
end L2
namespace L2
open PySem PySem.Spec PyProof.Rows
section
variable {X:Cx}
theorem zhI:∀ {ys:List Str} {its:List Value},Vals (ys.map V.str) its→∃ ls:List (Str × Tok),its=strValues ls∧ls.map (fun x=>x.1)=ys
 | [],_, .nil=>⟨[],rfl,rfl⟩
 | y :: ys,_, .cons r1 r2=>by
  obtain ⟨t,rfl⟩:=r1
  obtain ⟨ls,rfl,e⟩:=zhI r2
  exact ⟨(y,t) :: ls,rfl,by simp [e]⟩
theorem zgY {o e:Expr} {to te:TE} {p2 q2 apos cpos:Pos} (hc:X.calm=true) (hgr:Gl X "reversed") (hmr:X.mg "reversed" = none) (ho:PE X o to) (he:PE X e te)
  (hbase:attributeBase o "join" X.env (eval o X.env)=eval o X.env:=by rfl)
  (hfew:((backTo cpos (starEach [.Call (.Name "reversed" p2) [e] [] q2] X.env)).all (fun x=>!x.1) && (backToKw cpos (keywordEach [] X.env)).all (fun x=>x.1.isSome)
   && decide ([Expr.Call (.Name "reversed" p2) [e] [] q2].length + ([] : List Keyword).length + (if ([] : List Keyword).isEmpty then 0 else 1) < 30))=true:=by rfl)
  (hline:(apos.endLine == cpos.line)=true:=by rfl)
  (hs:starEach [.Call (.Name "reversed" p2) [e] [] q2] X.env=[(false,eval (.Call (.Name "reversed" p2) [e] [] q2) X.env)]:=by rfl) (hs1:starEach [e] X.env=[(false,eval e X.env)]:=by rfl) :
  PE X (.Call (.Attribute o "join" apos) [.Call (.Name "reversed" p2) [e] [] q2] [] cpos) (fun σ H Q=>to σ H fun x H1=>∃ z,x = .str z∧te σ H1 fun y H2=>∃ a,∃ ys:List Str,y = .ref a∧SqL X.K H2 a (ys.map V.str)∧(ys.map fun x=>x.length).sum + ys.length * z.length ≤ 16777216∧Q (.str (Txt.join z ys.reverse)) H2):=by
 intro pins s σ H Q I h
 refine wpAny_Call_method_late hbase hfew hline rfl (thn (ho pins s σ H _ I h) fun v s1 ⟨x,H1,I1,r1,z,ez,q1⟩=>?_)
 subst ez
 obtain ⟨t,rfl⟩:=r1
 refine ⟨"str", "str.join",F.plainAttrs_str,F.slot_str_join,F.type_str_join,typeIs_str s1 z t,(fun _ e=>nomatch e),?_⟩
 refine Calls.callWith_builtin (by rw [hs];rfl) (Calls.evalArgs_plain ?_)
 show wpAny _ _ (spliced ((false,eval (.Call (.Name "reversed" p2) [e] [] q2) X.env) :: [])) _ _ s1
 refine Calls.spliced_cons ?_
 refine wpAny_Call_Name_kw (zdn I1 hgr hmr boot_reversed ?_)
 refine PyProof.Rows.callWith_type1 (thn (zdQ he zgm hs1 q2 pins s1 σ H1 (fun vs H2=>match vs with
  | [y]=>∃ a,∃ ys:List Str,y=V.ref a∧SqL X.K H2 a (ys.map V.str)∧(ys.map fun x=>x.length).sum + ys.length * z.length ≤ 16777216∧Q (.str (Txt.join z ys.reverse)) H2
  | _=>False) I1 q1) fun us s2 ⟨vs,H2,I2,r2,q2⟩=>?_) hs1 rfl
 match vs,q2 with
 | [y],q2 =>
 obtain ⟨a,ys,e1,hq,hz,q⟩:=q2
 obtain ⟨u,rfl,ru⟩:=vals1 r2
 subst e1
 cases ru
 obtain ⟨its,rv,pl,hzz⟩:=I2.list hq
 obtain ⟨ls,rfl,els⟩:=zhI rv
 have hlen:(strValues ls).toArray.size=ls.length:=by simp [strValues]
 have hll:ls.length=ys.length:=by rw [← els,List.length_map]
 refine call_reversed_list pl.isList ?_
 refine Calls.spliced_nil ?_
 have hpl2:(s2.heap.push (revObj a (((strValues ls).toArray.size:Int) - 1))).IsList a (strValues ls).toArray:=pl.isList.at fun o e=>Heap.get?_push_of_some _ e
 obtain ⟨oa,hoa,_⟩:=id pl.isList
 have hne:a ≠ s2.heap.objs.size:=Nat.ne_of_lt (Heap.lt_size hoa)
 have I3:Inv X pins σ H2 { s2 with heap:=s2.heap.push (revObj a (((strValues ls).toArray.size:Int) - 1)) }:=I2.kept (t':=s2.toks) fun b o e=>Heap.get?_push_of_some _ e
 obtain ⟨f0,f1,f2,f3,f4,f5⟩:=I2.fpOk (H':=H2) (Nat.le_refl s2.heap.objs.size) (I2.hok.fresh (Nat.le_refl _))
 have hri:(s2.heap.push (revObj a (((strValues ls).toArray.size:Int) - 1))).IsRevIter s2.heap.objs.size a (((strValues ls).toArray.size:Int) - 1):=⟨_,Heap.get?_push_size _ rfl,rfl,rfl⟩
 refine zes (ls:=ls) (I3.ok.hd hc) hne (by rw [← hlen];exact hri) hpl2 (by rw [hll];rw [List.length_map] at hzz;exact hzz) (by
  have:ls.map (fun x=>x.1.length)=ys.map fun x=>x.length:=by rw [← els,List.map_map];rfl
  rw [this,hll];exact hz) fun h' tk t' hk=>?_
 rw [els]
 exact ⟨.str _,H2,I3.turned (h':=h') (t':=tk) (it:=s2.heap.objs.size) hk f0 f1 f3 f4 f5,⟨_,rfl⟩,q⟩
end
end L2
namespace L2
open PySem PySem.Spec PyProof.Rows
def Its (z:Str):It:=⟨fun i _=>i < z.cps.size,fun i H x H'=>H'=H∧∃ c,z.cps[i]? = some c∧x = .str ⟨#[c]⟩,fun i _=>z.cps.size ≤ i⟩
theorem zjx {P:Program} {w:World} {K:PySem.W.Frag} {tg:Expr} (it:Addr) (z:Str) (t:Tok):Turn P w K tg (Its z) [it] it (fun i h=>i ≤ z.cps.size∧h.IsStrIter it "str_ascii_iterator" z t i) where
 mem:=by simp
 obj:=fun i h st b hb=>by
  have e:b=it:=by simpa using hb
  subst e
  obtain ⟨_,o,ho,hc,hd⟩:=st
  exact ⟨o,ho,fun v q=>by rw [hd] at q;cases q⟩
 keep:=fun i h h' st k=>by
  obtain ⟨hi,o,ho,hc,hd⟩:=st
  exact ⟨hi,o,k it (by simp) o ho,hc,hd⟩
 item:=by
  intro X hP hw hK hc i pins s σ H E I hf st hg
  subst hP hw hK
  obtain ⟨f0,f1,f2,f3,f4,f5⟩:=hf it (by simp)
  have W:=Walks.strAscii (prog:=X.prog) (w:=X.w) (A:=X.A) (I.ok.hd hc) it z t
  refine W.item i s _ _ hg st.2 fun v h' tk hv st' kk=>?_
  obtain ⟨c,u,hc',rfl⟩:=hv
  have I1:Inv X pins σ H { s with heap:=h',toks:=tk }:=I.turned (fun b o hb e=>kk b o (by simpa using hb) e) f0 f1 f3 f4 f5
  obtain ⟨o,e,c1,d⟩:=id st'
  exact ⟨_,rfl,zji (s:={ s with heap:=h',toks:=tk }) e c1 d (by decide) ⟨.str ⟨#[c]⟩,H,I1,⟨u,rfl⟩,⟨rfl,c,hc',rfl⟩,⟨hg,st'⟩,fun b hb=>(hf b hb).1⟩⟩
 done:=by
  intro X hP hw hK hc i pins s σ H E I hf st hg
  subst hP hw hK
  obtain ⟨f0,f1,f2,f3,f4,f5⟩:=hf it (by simp)
  have W:=Walks.strAscii (prog:=X.prog) (w:=X.w) (A:=X.A) (I.ok.hd hc) it z t
  have e:i=z.cps.size:=Nat.le_antisymm st.1 hg
  subst e
  exact W.done s _ _ st.2 fun h' tk kk=>⟨rfl,I.turned (fun b o hb e=>kk b o (by simpa using hb) e) f0 f1 f3 f4 f5⟩
 self:=fun _ _ _ _ _ st h=>wpAny_pyIter_striter_ascii st.2 h
section
variable {X:Cx} {tg:Expr}
def ascii (z:Str):Bool:=z.cps.all fun x=>decide (x < 128)
theorem zlR {l:Expr} {tl:TE} (hl:PE X l tl):PI X tg l (fun σ H R=>tl σ H fun x H1=>∃ z,x = .str z∧ascii z=true∧R (Its z) H1):=by
 intro pins s σ H R I h
 refine thn (hl pins s σ H _ I h) fun v s1 ⟨x,H1,I1,r1,q1⟩=>?_
 obtain ⟨z,e,hz,q⟩:=q1
 subst e
 obtain ⟨t,rfl⟩:=r1
 refine wpAny_pyIter_ascii hz ?_
 refine ⟨s1.heap.objs.size,[s1.heap.objs.size],_,_,H1,rfl,I1.kept (t':=s1.toks) fun b o e=>Heap.get?_push_of_some _ e,zjx _ z t,⟨Nat.zero_le _,_,Heap.get?_push_size _ rfl,rfl,rfl⟩,fun b hb=>?_,q⟩
 have e:b=s1.heap.objs.size:=by simpa using hb
 subst e
 exact I1.fpOk (Nat.le_refl _) (I1.hok.fresh (Nat.le_refl _))
theorem ziH {e a:Expr} {te ta:TE} {p2 pos:Pos} (he:PE X e te) (ha:PE X a ta) (hgo:∀ v r,letTemporaryGo e v r=pure ():=by intros;rfl) :
  PE X (.Subscript e (.Slice (some a) none none p2) pos) (fun σ H Q=>te σ H fun x H1=>∃ z,x = .str z∧z.length ≤ sizeLine∧ta σ H1 fun y H2=>∃ i,y = .int i∧Q (.str (Txt.slice z (some i) none)) H2):=by
 intro pins s σ H Q I h
 refine Subscript_ (thn (he pins s σ H _ I h) fun v s1 ⟨x,H1,I1,r1,z,ez,hz,q1⟩=>?_)
 subst ez
 obtain ⟨t,rfl⟩:=r1
 refine wpAny_Slice ?_
 rw [evalPart_some]
 refine thn (ha pins s1 σ H1 _ I1 q1) fun vl s2 ⟨y,H2,I2,r2,i,ei,q⟩=>?_
 subst ei
 obtain ⟨ui,rfl⟩:=r2
 rw [evalPart_none]
 refine wpAny_pure ?_
 refine wpAny_pure ?_
 obtain ⟨m,hm,F⟩:=V2.Inv.frm I2
 exact slice_strN_sn F zep (fun h' t' k F' N'=>⟨.str _,H2,V2.Inv.zj9 I2 hm F' (V2.Inv.led I2 F' N' fun p hp=>hp),⟨_,rfl⟩,q⟩) (by with_unfolding_all rfl) (hgo _) hz
theorem zk9:OpR X (binaryOp .Mult) (fun x y H Q=>∃ z n,x = .str z∧y = .int n∧((n=0∧Q (.str Str.empty) H)∨(n=1∧Q (.str z) H))):=by
 intro pins s σ H x y v u Q I rx ry h
 obtain ⟨z,n,rfl,rfl,h⟩:=h
 obtain ⟨t,rfl⟩:=rx
 obtain ⟨t',rfl⟩:=ry
 rcases h with ⟨rfl,q⟩ | ⟨rfl,q⟩
 ·exact PySem.P.mul_str (by decide) (fun h=>absurd (by decide) h) (fun h=>absurd (by decide) h) ⟨by decide, .str Str.empty,H,I.tok _,⟨_,rfl⟩,q⟩
 ·exact PySem.P.mul_str (by decide) (fun _ h=>by simp at h) (fun _ h=>by simp at h) ⟨.str z,H,I,⟨_,rfl⟩,q⟩
end
end L2
namespace V2
open PySem PySem.Spec PyProof.Rows L2
def strsOf:List A→Option (List Str)
 | []=>some []
 | .str x :: r=>(strsOf r).map (x :: ·)
 | _=>none
theorem zdI {K:PySem.W.Frag} {G:Hp} {ι:List Addr}:∀ {ds:List A} {xs:List V} {ys:List Str},strsOf ds=some ys→DenL K G ι xs ds→xs=ys.map V.str
 | [],xs,ns,h,d=>by
  simp only [strsOf,Option.some.injEq] at h;subst h
  rw [za2] at d;subst d;rfl
 | a :: ds,xs,ns,h,d=>by
  obtain ⟨x,t,rfl,d1,d2⟩:=d.zbu
  cases a with
  | str i =>
   simp only [strsOf,Option.map_eq_some_iff] at h
   obtain ⟨ms,h1,rfl⟩:=h
   simp only [Den] at d1;subst d1
   rw [zdI h1 d2];rfl
  | _=>simp [strsOf] at h
@[simp] theorem zb4:∀ ys:List Str,strsOf (ys.map A.str)=some ys
 | []=>rfl
 | y :: r=>by simp [strsOf,zb4 r]
def zfd:List A→Option (List Bool)
 | []=>some []
 | .bl x :: r=>(zfd r).map (x :: ·)
 | _=>none
theorem zgt {K:PySem.W.Frag} {G:Hp} {ι:List Addr}:∀ {ds:List A} {xs:List V} {ys:List Bool},zfd ds=some ys→DenL K G ι xs ds→xs=ys.map V.bl
 | [],xs,ns,h,d=>by
  simp only [zfd,Option.some.injEq] at h;subst h
  rw [za2] at d;subst d;rfl
 | a :: ds,xs,ns,h,d=>by
  obtain ⟨x,t,rfl,d1,d2⟩:=d.zbu
  cases a with
  | bl i =>
   simp only [zfd,Option.map_eq_some_iff] at h
   obtain ⟨ms,h1,rfl⟩:=h
   simp only [Den] at d1;subst d1
   rw [zgt h1 d2];rfl
  | _=>simp [zfd] at h
@[simp] theorem zdV:∀ ys:List Bool,zfd (ys.map A.bl)=some ys
 | []=>rfl
 | y :: r=>by simp [zfd,zdV r]
theorem zfi {K:PySem.W.Frag} {G:Hp} {ι:List Addr}:∀ ys:List Str,DenL K G ι (ys.map V.str) (ys.map A.str)
 | []=>by simp [DenL]
 | y :: r=>by
  have:=zfi (K:=K) (G:=G) (ι:=ι) r
  simp only [List.map_cons,DenL]
  exact ⟨_,_,rfl,by simp only [Den],this⟩
section
variable {X:Cx} {W:WX} {e a b:Expr} {es:List Expr} {pos:Pos} {fa fb:Ev→Mo A} {fs:Ev→Mo (List A)}
@[simp] def zhB (c:Bool):A→A→Mo A
 | .str x, .str y=>mb (chk (x.length + y.length ≤ sizeLine)) fun _=>ret (.str (x ++ y))
 | a,b=>gAdd c a b
theorem zir (c:Bool):OpOk X W (binaryOp .Add) (zhB c):=by
 obtain ⟨r,c1,c2⟩:=zcl (X:=X) (W:=W) c
 refine ⟨_,zhm.or c1,?_⟩
 intro G ι Ω H σ x y a b Q w d1 d2 h
 unfold zhB at h
 split at h
 ·simp only [Den] at d1 d2
  obtain ⟨hz,h⟩:=Post.chk h
  exact .inl ⟨_,_,d1,d2,hz,zaw w (by simp only [Den]) h⟩
 ·exact .inr (c2 G ι Ω H σ x y _ _ Q w d1 d2 h)
@[simp] def zld:A→A→Mo A
 | .str z, .int n=>if n=0 then ret (.str Str.empty) else if n=1 then ret (.str z) else stuck
 | a,b=>gMul a b
theorem zmt:OpOk X W (binaryOp .Mult) zld:=by
 obtain ⟨r,c1,c2⟩:=zfL (X:=X) (W:=W)
 refine ⟨_,zk9.or c1,?_⟩
 intro G ι Ω H σ x y a b Q w d1 d2 h
 unfold zld at h
 split at h
 ·simp only [Den] at d1 d2
  split at h
  ·rename_i hn
   exact .inl ⟨_,_,d1,d2, .inl ⟨hn,zaw w (by simp only [Den]) h⟩⟩
  ·split at h
   ·rename_i hn
    exact .inl ⟨_,_,d1,d2, .inr ⟨hn,zaw w (by simp only [Den]) h⟩⟩
   ·exact False.elim h
 ·exact .inr (c2 G ι Ω H σ x y _ _ Q w d1 d2 h)
def zjj (i j:Str):Bool:=!(Builtin.Str.occurrences j i 0 j.length 1).isEmpty
@[simp] def gInS:A→A→Mo A
 | .str i, .str j=>ret (.bl (zjj i j))
 | _,_=>stuck
theorem znn:OpOk X W (compareOp .In) gInS:=by
 refine ⟨_,ziK,?_⟩
 intro G ι Ω H σ x y a b Q w d1 d2 h
 unfold gInS at h
 split at h
 ·simp only [Den] at d1 d2
  exact ⟨_,_,d1,d2,zaw w (by simp only [Den,zjj]) h⟩
 ·exact False.elim h
@[simp] def gIxS:A→A→Mo A
 | .str z, .int i=>if z.length ≤ sizeLine then (match atI z.cps.toList i with
  | some c=>ret (.str ⟨#[c]⟩)
  | none=>stuck) else stuck
 | _,_=>stuck
theorem zka (ha:VE X W a fa) (hb:VE X W b fb) (hs:zgc b):VE X W (.Subscript a b pos) (vOp gIxS fa fb):=by
 obtain ⟨t,p1,s1⟩:=ha
 obtain ⟨u,p2,s2⟩:=hb
 refine ⟨_,zlV zjM p1 p2 hs,ze0 ?_ s1 s2⟩
 intro G ι Ω H σ x y a i Q w d1 d2 h
 unfold gIxS at h
 split at h
 ·rename_i z n
  simp only [Den] at d1 d2
  split at h
  ·rename_i hz
   cases hc:atI z.cps.toList n with
   | none=>rw [hc] at h;exact False.elim h
   | some c =>
    rw [hc] at h
    exact .inr (.inr ⟨_,_,c,d1,d2,hz,hc,zaw w (by simp only [Den]) h⟩)
  ·exact False.elim h
 ·exact False.elim h
@[simp] def zjm (as:List A):Mo A:=match as with
 | [.str z]=>mb (chk (z.length ≤ sizeLine)) fun _=>ret (.int z.length)
 | as=>gLen as
theorem zjR:zb2 X W (.builtin "len") zjm:=by
 obtain ⟨r,c1,c2⟩:=zg8 (X:=X) (W:=W)
 refine ⟨_,zfx.or c1,?_⟩
 intro G ι Ω H σ xs as Q w d h
 unfold zjm at h
 split at h
 ·obtain ⟨x,rfl,d1⟩:=den1 d
  simp only [Den] at d1;subst d1
  obtain ⟨hz,h⟩:=Post.chk h
  exact .inl ⟨_,rfl,hz,zaw w (by simp only [Den]) h⟩
 ·exact .inr (c2 G ι Ω H σ xs as Q w d h)
@[simp] def zkV (as:List A):Mo A:=match as with
 | [.int i]=>mb (chk (i.natAbs.log2 < 1920)) fun _=>ret (.str (Str.ofString (toString i)))
 | _=>stuck
theorem zmu:zb2 X W (.type "str") zkV:=by
 refine ⟨_,zfF,?_⟩
 intro G ι Ω H σ xs as Q w d h
 unfold zkV at h
 split at h
 ·obtain ⟨x,rfl,d1⟩:=den1 d
  simp only [Den] at d1;subst d1
  obtain ⟨hz,h⟩:=Post.chk h
  exact ⟨_,rfl,hz,zaw w (by simp only [Den]) h⟩
 ·exact False.elim h
@[simp] def zlk (as:List A):Mo A:=match as with
 | [.str z]=>(match intText? z with
  | some n=>mb (chk (z.length ≤ 640)) fun _=>ret (.int n)
  | none=>stuck)
 | as=>ziQ as
theorem zl5:zb2 X W (.type "int") zlk:=by
 obtain ⟨r,c1,c2⟩:=zjW (X:=X) (W:=W)
 refine ⟨_,ze3.or c1,?_⟩
 intro G ι Ω H σ xs as Q w d h
 unfold zlk at h
 split at h
 ·rename_i z
  cases hn:intText? z with
  | none=>rw [hn] at h;exact False.elim h
  | some n =>
   rw [hn] at h
   obtain ⟨x,rfl,d1⟩:=den1 d
   simp only [Den] at d1;subst d1
   obtain ⟨hz,h⟩:=Post.chk h
   exact .inl ⟨_,n,rfl,hn,hz,zaw w (by simp only [Den]) h⟩
 ·exact .inr (c2 G ι Ω H σ xs as Q w d h)
@[simp] def zjp (as:List A):Mo A:=fun Ω=>match as with
 | [a]=>(match (zaj Ω a).bind zfd with
  | some bs=>some (.ok (.bl (bs.all id)),Ω)
  | none=>none)
 | _=>none
theorem zjY (hc:X.calm=true):zb2 X W (.builtin "all") zjp:=by
 refine ⟨_,zd6 hc,?_⟩
 intro G ι Ω H σ xs as Q w d h
 unfold zjp at h
 split at h
 ·split at h
  ·rename_i bs e
   rw [Option.bind_eq_some_iff] at e
   obtain ⟨ds,e1,e2⟩:=e
   obtain ⟨x,rfl,d1⟩:=den1 d
   obtain ⟨p,ys,rfl,h2,h3⟩:=zaF w d1 e1
   rw [zgt e2 h3] at h2
   exact ⟨p,bs,rfl,h2,h _ H G ι (Ext.refl _ _) w (by simp only [Den])⟩
  ·exact False.elim h
 ·exact False.elim h
@[simp] def ziy (as:List A):Mo A:=fun Ω=>match as with
 | [a]=>(match zaj Ω a with
  | some ds=>mkT ds Ω
  | none=>none)
 | _=>none
theorem zhQ:zb2 X W (.type "tuple") ziy:=by
 refine ⟨_,zeC,?_⟩
 intro G ι Ω H σ xs as Q w d h
 unfold ziy at h
 split at h
 ·split at h
  ·rename_i ds e
   obtain ⟨x,rfl,d1⟩:=den1 d
   obtain ⟨p,ys,rfl,h2,h3⟩:=zaF w d1 e
   exact ⟨p,ys,rfl, .inl ⟨h2,fun l hl=>zgV w hl h3 h⟩⟩
  ·exact False.elim h
 ·exact False.elim h
@[simp] def vBS (g:Str→List A→Mo A) (fo:Ev→Mo A) (f:Ev→Mo (List A)):Ev→Mo A:=fun ρ=>mb (fo ρ) fun o=>match o with
 | .str z=>mb (f ρ) (fun as=>g z as)
 | _=>stuck
def MtS (K:PySem.W.Frag) (W:WX) (r:V→List V→Hp→VK→Prop) (g:Str→List A→Mo A):Prop :=
 ∀ G ι Ω H σ z xs as Q,Wd K G ι Ω H→DenL K G ι xs as→Post K (Den K) W G ι σ Q (g z as Ω)→r (.str z) xs H Q
theorem zeQ {name:Str} {apos:Pos} {id:String} {r:V→List V→Hp→VK→Prop} {g:Str→List A→Mo A} (slot:Slot "str" name id) (hty:typeOf (.builtin id)=pure (.type "method_descriptor")) (hm:MtR X id r) (hv:MtS X.K W r g) (ho:VE X W a fa) (ha:VA X W (e :: es) fs)
  (hbase:attributeBase a name X.env (eval a X.env)=eval a X.env:=by rfl)
  (hfew:((backTo pos (starEach (e :: es) X.env)).all (fun x=>!x.1) && (backToKw pos (keywordEach [] X.env)).all (fun x=>x.1.isSome)
   && decide ((e :: es).length + ([] : List Keyword).length + (if ([] : List Keyword).isEmpty then 0 else 1) < 30))=true:=by rfl)
  (hline:(apos.endLine == pos.line)=true:=by rfl) (hs:starEach (e :: es) X.env=(false,eval e X.env) :: starEach es X.env:=by rfl) (hplain:(backTo pos (starEach es X.env)).any (·.1)=false:=by rfl) :
  VE X W (.Call (.Attribute a name apos) (e :: es) [] pos) (vBS g fa fs):=by
 obtain ⟨t,p1,s1⟩:=ho
 obtain ⟨u,p2,s2⟩:=ha
 refine ⟨_,zmR F.plainAttrs_str slot hty hm p1 p2 hbase hfew hline hs hplain,fun G ι Ω H σ ρ Q w r h=>?_⟩
 refine s1 G ι Ω H σ ρ _ w r (Post.mb h fun x Ω1 v H1 G1 ι1 x1 w1 d1 h1=>?_)
 cases x with
 | str z =>
  simp only [Den] at d1;subst d1
  exact ⟨rfl,s2 G1 ι1 Ω1 H1 σ ρ _ w1 (r.ext x1) (Post.mb h1 fun as Ω2 vs H2 G2 ι2 x2 w2 d2 h2=>hv G2 ι2 Ω2 H2 σ z vs as Q w2 d2 h2)⟩
 | _=>exact False.elim h1
@[simp] def zeR (z:Str) (as:List A):Mo A:=fun Ω=>match as with
 | [a]=>(match (zaj Ω a).bind strsOf with
  | some ys=>if sumL ys + ys.length * z.length ≤ 16777216 then some (.ok (.str (Txt.join z ys)),Ω) else none
  | none=>none)
 | _=>none
theorem zgu:MtS X.K W (rJoin X.K) zeR:=by
 intro G ι Ω H σ z xs as Q w d h
 unfold zeR at h
 split at h
 ·split at h
  ·rename_i ys e
   split at h
   ·rename_i hz
    rw [Option.bind_eq_some_iff] at e
    obtain ⟨ds,e1,e2⟩:=e
    obtain ⟨x,rfl,d1⟩:=den1 d
    obtain ⟨p,us,rfl,h2,h3⟩:=zaF w d1 e1
    rw [zdI e2 h3] at h2
    exact ⟨z,p,ys,rfl,rfl,h2,hz,h _ H G ι (Ext.refl _ _) w (by simp only [Den])⟩
   ·exact False.elim h
  ·exact False.elim h
 ·exact False.elim h
@[simp] def zgr (c:Bool) (z:Str) (as:List A):Mo A:=fun Ω=>match as with
 | [.str y]=>if (y.length == 0)=false∧z.length + 2 ≤ sizeLine then mkL c ((Txt.split z y).map A.str) Ω else none
 | _=>none
theorem m_split (c:Bool):MtS X.K W zj6 (zgr c):=by
 intro G ι Ω H σ z xs as Q w d h
 unfold zgr at h
 split at h
 ·rename_i y
  split at h
  ·rename_i hz
   obtain ⟨x,rfl,d1⟩:=den1 d
   simp only [Den] at d1;subst d1
   exact ⟨z,y,rfl,rfl,hz.1,hz.2,fun l hl=>zfv w hl (zfi _) h⟩
  ·exact False.elim h
 ·exact False.elim h
@[simp] def zdS (z:Str) (as:List A):Mo A:=match as with
 | [.str y]=>ret (.bl (Txt.startswith z y))
 | _=>stuck
theorem zgJ:MtS X.K W ziG zdS:=by
 intro G ι Ω H σ z xs as Q w d h
 unfold zdS at h
 split at h
 ·rename_i y
  obtain ⟨x,rfl,d1⟩:=den1 d
  simp only [Den] at d1;subst d1
  exact ⟨z,y,rfl,rfl,zaw w (by simp only [Den]) h⟩
 ·exact False.elim h
@[simp] def zgx (fo fe:Ev→Mo A):Ev→Mo A:=fun ρ=>mb (fo ρ) fun o=>match o with
 | .str z=>mb (fe ρ) (fun a Ω=>match (zaj Ω a).bind strsOf with
  | some ys=>if sumL ys + ys.length * z.length ≤ 16777216 then some (.ok (.str (Txt.join z ys.reverse)),Ω) else none
  | none=>none)
 | _=>stuck
theorem zg9 {p2 q2 apos cpos:Pos} (hc:X.calm=true) (hgr:Gl X "reversed") (hmr:X.mg "reversed" = none) (ho:VE X W a fa) (he:VE X W e fb)
  (hbase:attributeBase a "join" X.env (eval a X.env)=eval a X.env:=by rfl)
  (hfew:((backTo cpos (starEach [.Call (.Name "reversed" p2) [e] [] q2] X.env)).all (fun x=>!x.1) && (backToKw cpos (keywordEach [] X.env)).all (fun x=>x.1.isSome)
   && decide ([Expr.Call (.Name "reversed" p2) [e] [] q2].length + ([] : List Keyword).length + (if ([] : List Keyword).isEmpty then 0 else 1) < 30))=true:=by rfl)
  (hline:(apos.endLine == cpos.line)=true:=by rfl)
  (hs:starEach [.Call (.Name "reversed" p2) [e] [] q2] X.env=[(false,eval (.Call (.Name "reversed" p2) [e] [] q2) X.env)]:=by rfl) (hs1:starEach [e] X.env=[(false,eval e X.env)]:=by rfl) :
  VE X W (.Call (.Attribute a "join" apos) [.Call (.Name "reversed" p2) [e] [] q2] [] cpos) (zgx fa fb):=by
 obtain ⟨t,p1,s1⟩:=ho
 obtain ⟨u,p2,s2⟩:=he
 refine ⟨_,zgY hc hgr hmr p1 p2 hbase hfew hline hs hs1,fun G ι Ω H σ ρ Q w r h=>?_⟩
 refine s1 G ι Ω H σ ρ _ w r (Post.mb h fun x Ω1 v H1 G1 ι1 x1 w1 d1 h1=>?_)
 cases x with
 | str z =>
  simp only [Den] at d1;subst d1
  refine ⟨z,rfl,s2 G1 ι1 Ω1 H1 σ ρ _ w1 (r.ext x1) (Post.mb h1 fun a' Ω2 y H2 G2 ι2 x2 w2 d2 h2=>?_)⟩
  split at h2
  ·rename_i ys e
   split at h2
   ·rename_i hz
    rw [Option.bind_eq_some_iff] at e
    obtain ⟨ds,e1,e2⟩:=e
    obtain ⟨p,us,rfl,h3,h4⟩:=zaF w2 d2 e1
    rw [zdI e2 h4] at h3
    exact ⟨p,ys,rfl,h3,hz,h2 _ H2 G2 ι2 (Ext.refl _ _) w2 (by simp only [Den])⟩
   ·exact False.elim h2
  ·exact False.elim h2
 | _=>exact False.elim h1
@[simp] def vSlS (fe fi:Ev→Mo A):Ev→Mo A:=fun ρ=>mb (fe ρ) fun o=>match o with
 | .str z=>mb (chk (z.length ≤ sizeLine)) fun _=>mb (fi ρ) fun i=>match i with
  | .int i=>ret (.str (Txt.slice z (some i) none))
  | _=>stuck
 | _=>stuck
theorem ziz {p2:Pos} (he:VE X W e fa) (ha:VE X W a fb) (hgo:∀ v r,letTemporaryGo e v r=pure ():=by intros;rfl):VE X W (.Subscript e (.Slice (some a) none none p2) pos) (vSlS fa fb):=by
 obtain ⟨t,p1,s1⟩:=he
 obtain ⟨u,p2,s2⟩:=ha
 refine ⟨_,ziH p1 p2 hgo,fun G ι Ω H σ ρ Q w r h=>?_⟩
 refine s1 G ι Ω H σ ρ _ w r (Post.mb h fun x Ω1 v H1 G1 ι1 x1 w1 d1 h1=>?_)
 cases x with
 | str z =>
  simp only [Den] at d1;subst d1
  obtain ⟨hz,h1⟩:=Post.chk h1
  refine ⟨z,rfl,hz,s2 G1 ι1 Ω1 H1 σ ρ _ w1 (r.ext x1) (Post.mb h1 fun a' Ω2 y H2 G2 ι2 x2 w2 d2 h2=>?_)⟩
  cases a' with
  | int i =>
   simp only [Den] at d2
   exact ⟨i,d2,zaw w2 (by simp only [Den]) h2⟩
  | _=>exact False.elim h2
 | _=>exact False.elim h1
def zdp (z:Str):List A:=z.cps.toList.map fun c=>A.str ⟨#[c]⟩
@[simp] def zd7 (z:Str):Src:=⟨zdp z,fun _=>True⟩
@[simp] def ziO (f:Ev→Mo A):Ev→Mo Src:=fun ρ=>mb (f ρ) fun a=>match a with
 | .str z=>mb (chk (ascii z=true)) fun _=>ret (zd7 z)
 | _=>stuck
theorem zlu {K:PySem.W.Frag} {G:Hp} {ι:List Addr} {z:Str}:ItV K G ι (Its z) (zd7 z):=by
 have hl:(zdp z).length=z.cps.size:=by simp [zdp]
 refine ⟨fun _ _ _ _ _ _ _ i hi=>show i < z.cps.size by rw [← hl];exact hi,fun _ _ _ _ _ _ _ i hi=>show z.cps.size ≤ i by rw [← hl];exact hi,fun G' ι' Ω' H' e w h i x H2 y hy hd=>?_⟩
 obtain ⟨e1,c,e2,e3⟩:=hd
 subst e1 e3
 refine ⟨G',Ext.refl _ _,w,?_⟩
 simp only [zd7,zdp,List.getElem?_map,Option.map_eq_some_iff] at hy
 obtain ⟨d,hd,rfl⟩:=hy
 rw [Array.getElem?_toList,e2] at hd
 cases hd
 simp only [Den]
theorem zmM {tg l:Expr} {fe:Ev→Mo A} (h:VE X W l fe):VI X W tg l (ziO fe):=by
 obtain ⟨t,p,s⟩:=h
 refine ⟨_,zlR p,fun G ι Ω H σ ρ R w r h=>?_⟩
 refine s G ι Ω H σ ρ _ w r (Post.mb h fun a Ω1 v H1 G1 ι1 x1 w1 d1 h1=>?_)
 cases a with
 | str z =>
  simp only [Den] at d1;subst d1
  obtain ⟨hz,h1⟩:=Post.chk h1
  exact ⟨z,rfl,hz,zaw w1 zlu h1⟩
 | _=>exact False.elim h1
@[simp] def sNo:MS:=fun _ _=>none
theorem zhZ {body:List Stmt}:VSs X W body sNo:=zhD
end
end V2
namespace M
open PySem V2
noncomputable def zcL:Ev→Mo A :=
 (vLC false 1 [] (ziO (vVar 1)) (gN 0) yesM (vOp gInS (vVar 0) (cS "0123456789")))
noncomputable def zb7:MS :=
 (sSeq (sAsg (vIf (zbE (vBS zdS (vVar 0) (zac (cS "-") a0))) (vSlS (vVar 0) (cI 1)) (vVar 0)) (gN 1))
  (sSeq (sIf (vOrT (zbE (vOp gLt (vCl zjm (zac (vVar 1) a0)) (cI 1))) (zbE (vOp gGt (vCl zjm (zac (vVar 1) a0)) (cI 60))))
   (sRet (cB false))
   sNx)
  (sSeq (sIf (zhe (zbE (vCl zjp (zac zcL a0))))
   (sRet (cB false))
   sNx)
  (sRet (vOr (vOp gEq (vVar 0) (cS "0")) (vNot (vBS zdS (vVar 1) (zac (cS "0") a0))))))))
noncomputable def zbJ:List A→Mo A:=fnF 2 zb7
noncomputable def zaX:MS :=
 (sSeq (sAsg (vOp (gDiv) (vVar 2) (cI 10)) (gN 2))
   (sAsg (vOp (zhB false) (vOp gIxS (vVar 1) (vOp (gMod) (vVar 2) (cI 10))) (vVar 3)) (gN 3)))
noncomputable def zaZ:Ev→Mo Bool :=
 (zbE (vOp gGt (vVar 2) (cI 9)))
noncomputable def zbr:MS :=
 (sSeq (sAsg (cS "0123456789") (gN 1))
  (sSeq (sAsg (vCl zkf (zac (vVar 0) (zac (vOp (gSub) (cI 0) (vVar 0)) a0))) (gN 2))
  (sSeq (sAsg (vOp gIxS (vVar 1) (vOp (gMod) (vVar 2) (cI 10))) (gN 3))
  (sSeq (fun ρ Ω=>zbx zaZ zaX ((fun _ _=>1000000) ρ Ω) ρ Ω)
  (sRet (vOp (zhB false) (vOp (zld) (cS "-") (vCl ziQ (zac (vOp gLt (vVar 0) (cI 0)) a0))) (vVar 3)))))))
noncomputable def zbq:List A→Mo A:=fnF 4 zbr
noncomputable def zcG:Ev→Mo A :=
 (vLC false 1 [] (vSeq (vVar 5)) (gN 0) yesM (vCl (noX (zau 1 zbJ)) (zac (vVar 0) a0)))
noncomputable def zcI:Ev→Mo A :=
 (vLC false 1 [] (vSeq (vVar 5)) (gN 0) yesM (vCl zlk (zac (vVar 0) a0)))
noncomputable def zbp:MS :=
 (sSeq (sAsg (vBS (zgr false) (vVar 4) (zac (cS " ") a0)) (gN 5))
   (sSeq (sIf (vOrT (zbE (vOp gNe (vCl gLen (zac (vVar 5) a0)) (vVar 1))) (zhe (zbE (vCl zjp (zac zcG a0)))))
    (fun _ _=>none)
    sNx)
   (sExp (vBM zdb (vVar 2) (zac (vCl ziy (zac zcI a0)) a0)))))
noncomputable def zch:MS :=
 (sSeq (sAsg (vLst true a0) (gN 2))
  (sSeq (sFor (zmc (vBS (zgr false) (vVar 0) (zac (cS "\n") a0))) (zhc 2 (zcK (gN 3) (zcK (gN 4) zix))) zbp)
  (sRet (vVar 2))))
noncomputable def zb9:List A→Mo A:=fnF 6 zch
noncomputable def zaC:MS :=
 (sAsg (vOp (gAdd false) (vOp (gMul) (vVar 2) (cI 10)) (vOp (gMod) (vCl (zau 2 zaA) (zac (vVar 0) (zac (vOp (gAdd false) (cI 2) (vVar 3)) a0))) (cI 10))) (gN 2))
noncomputable def zak:MS :=
 (sSeq (sAsg (vOp (gAdd false) (cI 1) (vOp (gMod) (vOp (gDiv) (vVar 0) (cI 8)) (cI 60))) (gN 1))
  (sSeq (sAsg (vOp (gAdd false) (cI 1) (vOp (gMod) (vCl (zau 2 zaA) (zac (vVar 0) (zac (cI 1) a0))) (cI 9))) (gN 2))
  (sSeq (sFor (zem (zac (vOp (gSub) (vVar 1) (cI 1)) a0)) (gN 3) zaC)
  (sRet (vOp gIx (vLst false (zac (cI 0) (zac (cI 1) (zac (vOp (gMod) (vOp (gDiv) (vVar 0) (cI 8)) (cI 100)) (zac (vOp (gSub) (vOp (gSub) (cI 0) (cI 1)) (vOp (gMod) (vOp (gDiv) (vVar 0) (cI 8)) (cI 100))) (zac (vVar 2) (zac (vOp (gSub) (cI 0) (vVar 2)) (zac (vOp (gSub) (vOp (gPow) (cI 10) (cI 60)) (cI 1)) (zac (vOp (gSub) (cI 1) (vOp (gPow) (cI 10) (cI 60))) a0))))))))) (vOp (gMod) (vVar 0) (cI 8)))))))
noncomputable def zar:List A→Mo A:=fnF 4 zak
noncomputable def zc8 (self:List A→Mo A):MS :=
 sNo
noncomputable def zb3 (self:List A→Mo A):Ev→Mo Bool :=
 (zbE (vOp gGe (vVar 0) (vOp (gPow) (cI 10) (cI 60))))
noncomputable def zaH (self:List A→Mo A):MS :=
 (sSeq (sIf (zbE (vOp gLt (vVar 0) (cI 0)))
   (sRet (vOp (zhB false) (cS "-") (vCl (zau 1 self) (zac (vNeg (vVar 0)) a0))))
   sNx)
  (sSeq (sAsg (vLst true a0) (gN 1))
  (sSeq (fun ρ Ω=>zbx (zb3 self) (zc8 self) ((fun _ _=>1000000) ρ Ω) ρ Ω)
  (sSeq (sExp (vBM zdb (vVar 1) (zac (vCl zkV (zac (vVar 0) a0)) a0)))
  (sRet (zgx (cS "") (vVar 1)))))))
noncomputable def zam:Nat→List A→Mo A
 | 0=>fnF 2 sNo
 | n + 1=>fnF 2 (zaH (zam n))
noncomputable def zbO:Ev→Mo A :=
 (vLC false 1 [] (vSeq (vVar 0)) (gN 0) yesM (vCl (noX (zau 1 (zam 2))) (zac (vVar 0) a0)))
noncomputable def zbg:MS :=
 (sRet (vBS zeR (cS " ") (zac zbO a0)))
noncomputable def zaW:List A→Mo A:=fnF 1 zbg
noncomputable def zcF:Ev→Mo A :=
 (vLC false 1 [] (vSeq (vVar 0)) (gN 0) yesM (vCl (noX (zau 1 zaW)) (zac (vVar 0) a0)))
noncomputable def zb8:MS :=
 (sRet (vBS zeR (cS "\n") (zac zcF a0)))
noncomputable def zcb:List A→Mo A:=fnF 1 zb8
end M
namespace V2
open PySem L2
@[simp] theorem zgI (neg:Bool) (i j:Int) (Ω:Sto):gEqB neg (.int i) (.int j) Ω=some (.ok (.bl (if neg then !(i == j) else i == j)),Ω):=by
 simp [gEqB,res,pur,eqA]
@[simp] theorem znN (i j:Int) (Ω:Sto):gEq (.int i) (.int j) Ω=some (.ok (.bl (i == j)),Ω):=zgI false i j Ω
@[simp] theorem znq (i j:Int) (Ω:Sto):gNe (.int i) (.int j) Ω=some (.ok (.bl (!(i == j))),Ω):=zgI true i j Ω
theorem zgH {i j:Int} (h0 : -18446744073709551616 < i) (h1:i < 18446744073709551616):CMul i j := .inl ⟨h0,h1⟩
theorem zjQ {i j:Int} (h0 : -18446744073709551616 < j) (h1:j < 18446744073709551616):CMul i j := .inr ⟨h0,h1⟩
@[simp] theorem zn9 {α:Type} (x:α) (l:List α):atI (x :: l) 0=some x:=zjl _
@[simp] theorem zn8 {α:Type} (x y:α) (l:List α):atI (x :: y :: l) 1=some y:=zke _
@[simp] theorem zoa {α:Type} (x y z:α) (l:List α):atI (x :: y :: z :: l) 2=some z:=zfa _ 2
@[simp] theorem zoe {α:Type} (x y z u:α) (l:List α):atI (x :: y :: z :: u :: l) 3=some u:=zfa _ 3
end V2
namespace M
open PySem L2 V2
def mixI (c k:Int):Int :=
 ((c + 1) * (48271 + 118 * k) % 2147483629 / 977 * 16807 + (c + 1) * (48271 + 118 * k) % 2147483629 * (k * k + 7) + k) % 2147483587
theorem mix0 (c k:Int):0 ≤ mixI c k:=Int.emod_nonneg _ (by decide)
theorem mix1 (c k:Int):mixI c k < 2147483587:=Int.emod_lt_of_pos _ (by decide)
theorem zgk (c k:Int) (Ω:Sto) (hc:0 ≤ c) (hc1:c < 8589934592) (hk:0 ≤ k) (hk1:k < 1048576):zaA [.int c, .int k] Ω=some (.ok (.int (mixI c k)),Ω):=by
 have f0:=Int.emod_nonneg ((c + 1) * (48271 + 118 * k)) (show (2147483629:Int) ≠ 0 by decide)
 have f1:=Int.emod_lt_of_pos ((c + 1) * (48271 + 118 * k)) (show (0:Int) < 2147483629 by decide)
 have h1:CMul (c + 1) (48271 + 118 * k):=zgH (by omega) (by omega)
 have h2:CMul k k:=zgH (by omega) (by omega)
 have h3:∀ j,CMul ((c + 1) * (48271 + 118 * k) % 2147483629) j:=fun j=>zgH (by omega) (by omega)
 have h4:∀ j,CMul j 16807:=fun j=>zjQ (by decide) (by decide)
 have h5:∀ j,CMul 118 j:=fun j=>zgH (by decide) (by decide)
 have h6:∀ j,CDiv j 977:=fun j=>⟨by decide,by decide⟩
 simp [zaA,zee,h1,h2,h3,h4,h5,h6,mixI]
def ze8 (ns:List Int) (k:Int):Int:=mixI (if k < ns.length then ns[k.toNat]?.getD 0 % 2147483647 else 0) (k + 101)
theorem zkc (ns:List Int) (k:Int):0 ≤ ze8 ns k:=mix0 _ _
theorem zm4 (ns:List Int) (k:Int):ze8 ns k < 2147483587:=mix1 _ _
theorem zhP (ns:List Int) (k:Int) (Ω:Sto) (hk:0 ≤ k) (hk1:k < 1000000):zaN [.scr ns, .int k] Ω=some (.ok (.int (ze8 ns k)),Ω):=by
 by_cases h:k < (ns.length:Int)
 ·obtain ⟨n,rfl⟩:=Int.eq_ofNat_of_zero_le hk
  have hn:n < ns.length:=by omega
  have e:atI (ns.map A.int) (n:Int)=some (.int ns[n]):=by rw [zeh];simp [hn]
  have f0:=Int.emod_nonneg ns[n] (show (2147483647:Int) ≠ 0 by decide)
  have f1:=Int.emod_lt_of_pos ns[n] (show (0:Int) < 2147483647 by decide)
  have m:=fun Ω=>zgk (ns[n] % 2147483647) (n + 101) Ω f0 (by omega) (by omega) (by omega)
  simp [zaN,zcO,h,e,m,ze8,hn]
 ·have m:=fun Ω=>zgk 0 (k + 101) Ω (by decide) (by decide) (by omega) (by omega)
  simp [zaN,zcO,h,m,ze8]
end M
namespace V2
open PySem L2
theorem zda {f:A→A→Bool}:∀ (xs:List A),(∀ x ∈ xs,f x x=true)→zeZ f xs xs=true
 | [],_=>rfl
 | x :: xs,h=>by simp only [zeZ,h x (List.mem_cons_self ..),Bool.true_and];exact zda xs fun y hy=>h y (List.mem_cons_of_mem _ hy)
theorem zjo:∀ (n:Nat) (a:A),pur n a=true→eqA n a a=true:=by
 intro n
 induction n with
 | zero=>intro a h;cases a <;> first | (simp [eqA];done) | (simp [pur] at h)
 | succ n ih =>
  intro a h
  cases a with
  | tup ds=>simp only [pur,List.all_eq_true] at h;simp only [eqA];exact zda ds fun x hx=>ih x (h x hx)
  | lst ds=>simp only [pur,List.all_eq_true] at h;simp only [eqA];exact zda ds fun x hx=>ih x (h x hx)
  | int i=>simp [eqA]
  | bl i=>simp [eqA]
  | str i=>simp [eqA]
  | non=>simp [eqA]
  | _=>simp [pur] at h
theorem zhV {Ω:Sto} {n:Nat} {a:A} (h:pur 8 a=true):res Ω n a=some a:=by
 cases n <;> simp [res,h]
abbrev E:=Int × Int × Int
@[simp] theorem znH (n:Nat) (i:Int):pur n (.int i)=true:=by cases n <;> rfl
end V2
namespace M
open PySem L2 V2
end M
namespace M
open PySem L2 V2
end M
namespace M
open PySem L2 V2
end M
namespace V2
open PySem L2
end V2
namespace M
open PySem L2 V2
end M
namespace V2
open PySem L2
theorem zei {ok:Sto→Prop} {g:A→MS} {c:Ev→Mo Bool} {e:Ev→Mo A} (F:A→Option A) (P:Ev→Prop) (Ω0:Sto) (hok:∀ ys,ok (Ω0 ++ [.lst ys])):∀ (xs:List A) (ρ:Ev) (acc:List A),P ρ→acc.length + xs.length ≤ 1000000 →
  (∀ x ∈ xs,∀ ρ,P ρ→∀ ys,∃ ρ1,P ρ1∧g x ρ (Ω0 ++ [.lst ys])=some (.nx,ρ1,Ω0 ++ [.lst ys])∧((∃ y,F x=some y∧c ρ1 (Ω0 ++ [.lst ys])=some (.ok true,Ω0 ++ [.lst ys])∧e ρ1 (Ω0 ++ [.lst ys])=some (.ok y,Ω0 ++ [.lst ys]))∨(F x=none∧c ρ1 (Ω0 ++ [.lst ys])=some (.ok false,Ω0 ++ [.lst ys])))) →
  ∃ ρ',fLC ok g c e Ω0.length xs ρ (Ω0 ++ [.lst acc])=some (ρ',Ω0 ++ [.lst (acc ++ xs.filterMap F)])
 | [],ρ,acc,_,_,_=>⟨ρ,by simp [fLC,hok]⟩
 | x :: xs,ρ,acc,hP,hl,turn=>by
  simp only [List.length_cons] at hl
  obtain ⟨ρ1,hP1,e1,q⟩:=turn x (List.mem_cons_self ..) ρ hP acc
  have hz:acc.length < sizeLine:=by rw [sizeLine_eq];omega
  rcases q with ⟨y,f1,e2,e3⟩ | ⟨f1,e2⟩
  ·obtain ⟨ρ',ih⟩:=zei F P Ω0 hok xs ρ1 (acc ++ [y]) hP1 (by simp;omega) fun x hx=>turn x (List.mem_cons_of_mem _ hx)
   exact ⟨ρ',by simp [fLC,hok,e1,e2,e3,hz,ih,f1]⟩
  ·obtain ⟨ρ',ih⟩:=zei F P Ω0 hok xs ρ1 acc hP1 (by omega) fun x hx=>turn x (List.mem_cons_of_mem _ hx)
   exact ⟨ρ',by simp [fLC,hok,e1,e2,ih,f1]⟩
theorem zgR {n:Nat} {js:List Nat} {fi:Ev→Mo Src} {g:A→MS} {c:Ev→Mo Bool} {e:Ev→Mo A} {ρ:Ev} {Ω Ω0:Sto} {S:Src} (F:A→Option A) (P:Ev→Prop) (hfi:fi ρ Ω=some (.ok S,Ω0)) (hok:∀ ys,S.ok (Ω0 ++ [.lst ys])) (hP:P (lcEv n js ρ)) (hl:S.ds.length ≤ 1000000)
  (turn:∀ x ∈ S.ds,∀ ρ,P ρ→∀ ys,∃ ρ1,P ρ1∧g x ρ (Ω0 ++ [.lst ys])=some (.nx,ρ1,Ω0 ++ [.lst ys])∧((∃ y,F x=some y∧c ρ1 (Ω0 ++ [.lst ys])=some (.ok true,Ω0 ++ [.lst ys])∧e ρ1 (Ω0 ++ [.lst ys])=some (.ok y,Ω0 ++ [.lst ys]))∨(F x=none∧c ρ1 (Ω0 ++ [.lst ys])=some (.ok false,Ω0 ++ [.lst ys]))))
  (hc:ClL Ω0.length (S.ds.filterMap F)):vLC false n js fi g c e ρ Ω=some (.ok (.lst (S.ds.filterMap F)),Ω0):=by
 obtain ⟨ρ',q⟩:=zei F P Ω0 hok S.ds (lcEv n js ρ) [] hP (by simpa using hl) turn
 simp [vLC,mb,hfi,q,zlc,hc]
theorem zi2 {a b c:A} {Ω:Sto} (ha:res Ω 6 a=some c) (hb:res Ω 6 b=some c) (hc:pur 8 c=true):gNe a b Ω=some (.ok (.bl false),Ω):=by
 simp [gNe,gEqB,ha,hb,hc,zjo 8 c hc]
theorem zek {a:A} {Ω:Sto} (h:pur 8 a=true):gNe a a Ω=some (.ok (.bl false),Ω):=zi2 (zhV h) (zhV h) h
end V2
namespace M
open PySem L2 V2
def L2S (l:List Nat):Str:=⟨l.toArray⟩
@[simp] theorem zdD (l:List Nat):(L2S l).cps.toList=l:=rfl
@[simp] theorem za5 (l:List Nat):(L2S l).length=l.length:=by simp [L2S,Str.length]
theorem zj0 (x:Str):L2S x.cps.toList=x:=by cases x;rfl
theorem zfN {a b:List Nat} (h:L2S a=L2S b):a=b:=by have:=congrArg (fun x:Str=>x.cps.toList) h;exact this
theorem zc9 (a b:List Nat):L2S a ++ L2S b=L2S (a ++ b):=by
 show (⟨a.toArray ++ b.toArray⟩ : Str)=⟨(a ++ b).toArray⟩
 simp
def dg (m:Nat):List Nat:=(Nat.toDigits 10 m).map Char.toNat
theorem zj8:∀ d,d < 10→(Nat.digitChar d).toNat=48 + d:=by decide
theorem ziZ {m:Nat} (h:m < 10):dg m=[48 + m]:=by
 unfold dg
 rw [Nat.toDigits_of_lt_base h]
 simp [zj8 m h]
theorem zki {m:Nat} (h:10 ≤ m):dg m=dg (m / 10) ++ [48 + m % 10]:=by
 unfold dg
 rw [Nat.toDigits_eq_if (by decide),if_neg (by omega),List.map_append]
 simp [zj8 (m % 10) (by omega)]
theorem zgB:∀ (k m:Nat),m ≤ k→∀ c ∈ dg m,48 ≤ c∧c ≤ 57:=by
 intro k
 induction k with
 | zero=>intro m h c hc;rw [ziZ (by omega)] at hc;simp at hc;omega
 | succ k ih =>
  intro m h c hc
  by_cases hm:m < 10
  ·rw [ziZ hm] at hc;simp at hc;omega
  ·rw [zki (by omega)] at hc
   rcases List.mem_append.mp hc with z | z
   ·exact ih (m / 10) (by omega) c z
   ·simp at z;omega
theorem zkn:∀ (k m:Nat),m ≤ k→0 < m→∃ c r,dg m=c :: r∧49 ≤ c∧c ≤ 57:=by
 intro k
 induction k with
 | zero=>intro m h h0;omega
 | succ k ih =>
  intro m h h0
  by_cases hm:m < 10
  ·exact ⟨48 + m,[],ziZ hm,by omega,by omega⟩
  ·obtain ⟨c,r,e,h1,h2⟩:=ih (m / 10) (by omega) (by omega)
   exact ⟨c,r ++ [48 + m % 10],by rw [zki (by omega),e];rfl,h1,h2⟩
theorem zjf (m:Nat):dg m ≠ []:=by
 unfold dg
 simp [Nat.toDigits_ne_nil]
theorem zeM {m k:Nat} (hk:0 < k) (h:m < 10 ^ k):(dg m).length ≤ k:=by
 unfold dg
 rw [List.length_map]
 exact (Nat.length_toDigits_le_iff (by decide) hk).mpr h
theorem zlK (m:Nat):(Str.ofString (toString (m:Int)))=L2S (dg m):=by
 rw [← zj0 (Str.ofString (toString (m:Int))),PySem.W.KIN.signs_num];rfl
def tL (n:Int):List Nat:=if n < 0 then 45 :: dg n.natAbs else dg n.natAbs
def Few (n:Int):Prop:=n.natAbs < 10 ^ 60
theorem zeT {n:Int} (h:Few n):(tL n).length ≤ 61:=by
 have:=zeM (k:=60) (by decide) h
 unfold tL;split <;> simp <;> omega
theorem zic (n:Int):∀ c ∈ tL n,c ≠ 32∧c ≠ 10:=by
 intro c hc
 unfold tL at hc
 have:=zgB n.natAbs n.natAbs (Nat.le_refl _) c
 split at hc
 ·rcases List.mem_cons.mp hc with z | z
  ·omega
  ·have:=this z;omega
 ·have:=this hc;omega
theorem zik {n:Int} (h:Few n):intText? (L2S (tL n))=some n:=by
 have hl:=zeT h
 unfold tL at hl ⊢
 have da:NumText.AllDigits (dg n.natAbs):=zgB _ _ (Nat.le_refl _)
 have vb:NumText.digitsVal (dg n.natAbs)=n.natAbs:=PySem.W.KIN.val_back _
 split
 ·rename_i hn
  rw [if_pos hn] at hl
  rw [intText_neg (cs:=dg n.natAbs) rfl da (zjf _) (by rw [za5];omega),vb]
  congr 1;omega
 ·rename_i hn
  rw [if_neg hn] at hl
  rw [intText_digits (x:=L2S (dg n.natAbs)) da (zjf _) (by rw [za5];omega)]
  rw [zdD,vb]
  congr 1;omega
def J (c:Nat):List (List Nat)→List Nat
 | []=>[]
 | x :: r=>x ++ r.flatMap fun y=>c :: y
theorem zdL (c:Nat) (x y:List Nat) (r:List (List Nat)):J c (x :: y :: r)=x ++ c :: J c (y :: r):=by simp [J]
theorem zgw (c:Nat):∀ xs:List (List Nat),Txt.join ⟨#[c]⟩ (xs.map L2S)=L2S (J c xs)
 | []=>rfl
 | x :: r=>by
  have key:∀ (r:List (List Nat)) (acc:List Nat),List.foldl (fun (a:Array Nat) (p:Str)=>a ++ #[c] ++ p.cps) acc.toArray (r.map L2S)=(acc ++ r.flatMap fun y=>c :: y).toArray:=by
   intro r
   induction r with
   | nil=>intro acc;simp
   | cons y q ih =>
    intro acc
    have e:acc.toArray ++ #[c] ++ (L2S y).cps=(acc ++ c :: y).toArray:=by simp [L2S]
    simp only [List.map_cons,List.foldl_cons,e,ih]
    simp
  show (⟨List.foldl (fun (a:Array Nat) (p:Str)=>a ++ #[c] ++ p.cps) x.toArray (r.map L2S)⟩ : Str)=_
  rw [key];rfl
theorem zfe (c:Nat):∀ xs:List (List Nat),Str.join ⟨#[c]⟩ (xs.map L2S)=L2S (J c xs)
 | []=>rfl
 | [x]=>by show L2S x=_;simp [J]
 | x :: y :: r=>by
  have ih:=zfe c (y :: r)
  show L2S x ++ (⟨#[c]⟩ : Str) ++ Str.join ⟨#[c]⟩ ((y :: r).map L2S)=_
  rw [ih,show (⟨#[c]⟩ : Str)=L2S [c] from rfl,zc9,zc9,zdL]
  simp
theorem zgp {c:Nat}:∀ {a b p q:List Nat},c ∉ a→c ∉ b→a ++ c :: p=b ++ c :: q→a=b∧p=q
 | [],[],p,q,_,_,h=>by simpa using h
 | [],y :: b,p,q,_,hb,h=>by simp at h;exact absurd (by simp [h.1]) hb
 | x :: a,[],p,q,ha,_,h=>by simp at h;exact absurd (by simp [h.1]) ha
 | x :: a,y :: b,p,q,ha,hb,h=>by
  simp only [List.cons_append,List.cons.injEq] at h
  obtain ⟨e1,e2⟩:=zgp (a:=a) (b:=b) (fun z=>ha (by simp [z])) (fun z=>hb (by simp [z])) h.2
  exact ⟨by rw [h.1,e1],e2⟩
theorem zlW {c:Nat}:∀ {xs ys:List (List Nat)},xs ≠ []→ys ≠ []→(∀ x ∈ xs,c ∉ x)→(∀ y ∈ ys,c ∉ y)→J c xs=J c ys→xs=ys
 | [x],[y],_,_,_,_,h=>by simp [J] at h;rw [h]
 | [x],y :: z :: r,_,_,hx,_,h=>by
  rw [zdL] at h;simp [J] at h
  exact absurd (show c ∈ x by rw [h];simp) (hx x (by simp))
 | x :: z :: r,[y],_,_,_,hy,h=>by
  rw [zdL] at h;simp [J] at h
  exact absurd (show c ∈ y by rw [← h];simp) (hy y (by simp))
 | x :: x2 :: r,y :: y2 :: q,_,_,hx,hy,h=>by
  rw [zdL,zdL] at h
  obtain ⟨e1,e2⟩:=zgp (hx x (by simp)) (hy y (by simp)) h
  have:=zlW (xs:=x2 :: r) (ys:=y2 :: q) (by simp) (by simp) (fun z hz=>hx z (by simp [List.mem_cons.mp hz])) (fun z hz=>hy z (by simp [List.mem_cons.mp hz])) e2
  rw [e1,this]
theorem zh1 {c:Nat} {xs:List (List Nat)} (hne:xs ≠ []) (hf:∀ x ∈ xs,c ∉ x):Txt.split (L2S (J c xs)) ⟨#[c]⟩ = xs.map L2S:=by
 have h1:=StrLaws.join_split (L2S (J c xs)) ⟨#[c]⟩
 have h2:=StrLaws.split_free (L2S (J c xs)) c
 have h3:=PyProof.Rows.split_pos (L2S (J c xs)) ⟨#[c]⟩
 generalize Txt.split (L2S (J c xs)) ⟨#[c]⟩ = ps at h1 h2 h3
 have ep:ps=(ps.map fun p=>p.cps.toList).map L2S:=by
  rw [List.map_map]
  have:(L2S ∘ fun p:Str=>p.cps.toList)=id:=by funext p;exact zj0 p
  rw [this,List.map_id]
 rw [ep,zfe] at h1
 have:=zlW (c:=c) (by intro z;have:=congrArg List.length z;simp at this;rw [this] at h3;simp at h3) hne (fun x hx=>by
  obtain ⟨p,hp,rfl⟩:=List.mem_map.mp hx
  exact h2 p hp) hf (zfN h1)
 rw [ep,this]
end M
namespace M
open PySem L2 V2
theorem zjL:∀ d:Nat,d < 10→atI (Str.ofString "0123456789").cps.toList (d:Int)=some (48 + d):=by decide
theorem zib:(Str.ofString "0123456789").length ≤ sizeLine:=by decide
theorem ziD (c:Nat):(⟨#[c]⟩ : Str)=L2S [c]:=rfl
theorem zfh (x0:Option A) (Ω:Sto):∀ (k r fuel:Nat) (tail:List Nat),r < 10 ^ k→1 ≤ k→k < fuel→tail.length + k ≤ 1000 →
  ∃ r',zbx zaZ zaX fuel [x0,some (.str (Str.ofString "0123456789")),some (.int r),some (.str (L2S ((48 + r % 10) :: tail)))] Ω=some (.nx,[x0,some (.str (Str.ofString "0123456789")),r',some (.str (L2S (dg r ++ tail)))],Ω):=by
 intro k
 induction k with
 | zero=>intro r fuel tail _ h;omega
 | succ k ih =>
  intro r fuel tail hr hk hf ht
  obtain ⟨fuel,rfl⟩ : ∃ g,fuel=g + 1:=⟨fuel - 1,by omega⟩
  by_cases h9:r < 10
  ·refine ⟨some (.int r),?_⟩
   have e1:¬ (9:Int) < (r:Int):=by omega
   rw [ziZ h9,Nat.mod_eq_of_lt h9]
   simp [zbx,zaZ,e1]
  ·have e1:(9:Int) < (r:Int):=by omega
   have d10:CDiv (r:Int) 10:=⟨by decide,by decide⟩
   have hk1:1 ≤ k:=by
    cases k with
    | zero=>simp at hr;omega
    | succ k=>omega
   obtain ⟨r',q⟩:=ih (r / 10) fuel ((48 + r % 10) :: tail) (by rw [Nat.pow_succ] at hr;omega) hk1 (by omega) (by simp;omega)
   refine ⟨r',?_⟩
   have ed:dg r ++ tail=dg (r / 10) ++ (48 + r % 10) :: tail:=by rw [zki (by omega)];simp
   rw [ed,← q]
   have ec:((r:Int) / 10)=((r / 10:Nat):Int):=by omega
   have em:(((r / 10:Nat):Int) % 10)=((r / 10 % 10:Nat):Int):=by omega
   have fa:=zjL (r / 10 % 10) (by omega)
   have hz:(L2S [48 + r / 10 % 10]).length + (L2S ((48 + r % 10) :: tail)).length ≤ sizeLine:=by rw [za5,za5,sizeLine_eq];simp;omega
   have step:zaX [x0,some (.str (Str.ofString "0123456789")),some (.int r),some (.str (L2S ((48 + r % 10) :: tail)))] Ω=some (.nx,[x0,some (.str (Str.ofString "0123456789")),some (.int ((r / 10:Nat):Int)),some (.str (L2S ((48 + r / 10 % 10) :: (48 + r % 10) :: tail)))],Ω):=by
    have ea:=zc9 [48 + r / 10 % 10] ((48 + r % 10) :: tail)
    simp only [List.singleton_append] at ea
    rw [← ea]
    generalize L2S ((48 + r % 10) :: tail)=T at hz
    have fl:=zib
    generalize Str.ofString "0123456789" = F at fa fl
    generalize hq:((r / 10:Nat):Int)=w at ec em
    generalize 48 + r / 10 % 10=D at fa hz
    simp only [← em] at fa
    rw [← ziD] at hz ⊢
    simp [zaX,d10,ec,fa,fl,hz]
   rw [zf7 (Ω1:=Ω) (by simp [zaZ,e1]) step]
theorem zht {n:Int} (h:Few n) (Ω:Sto):zbq [.int n] Ω=some (.ok (.str (L2S (tL n))),Ω):=by
 show trim Ω (outR (zbr [some (.int n),none,none,none] Ω))=_
 have em:max n (-n)=(n.natAbs:Int):=by omega
 have fa:=zjL (n.natAbs % 10) (by omega)
 have e2:((n.natAbs:Int) % 10)=((n.natAbs % 10:Nat):Int):=by omega
 obtain ⟨r',q⟩:=zfh (some (.int n)) Ω 60 n.natAbs 1000000 [] h (by decide) (by decide) (by decide)
 have hl:=zeM (k:=60) (by decide) h
 have e:zbr [some (.int n),none,none,none] Ω=some (.ret (.str (L2S (tL n))),[some (.int n),some (.str (Str.ofString "0123456789")),r',some (.str (L2S (dg n.natAbs)))],Ω):=by
  unfold zbr
  rw [zat (ρ1:=[some (.int n),some (.str (Str.ofString "0123456789")),none,none]) (Ω':=Ω) (by simp)]
  rw [zat (ρ1:=[some (.int n),some (.str (Str.ofString "0123456789")),some (.int n.natAbs),none]) (Ω':=Ω) (by simp [em])]
  rw [zat (ρ1:=[some (.int n),some (.str (Str.ofString "0123456789")),some (.int n.natAbs),some (.str (L2S [48 + n.natAbs % 10]))]) (Ω':=Ω) (by
   have fl:=zib
   generalize Str.ofString "0123456789" = F at fa fl
   generalize (n.natAbs:Int)=w at e2
   simp only [← e2] at fa
   generalize 48 + n.natAbs % 10=D at fa
   rw [← ziD]
   simp [fa,fl])]
  rw [List.append_nil] at q
  rw [zat q]
  have e45:Str.ofString "-" = L2S [45]:=rfl
  have ee:Str.empty=L2S []:=rfl
  have z1:1 + (dg n.natAbs).length ≤ sizeLine:=by rw [sizeLine_eq];omega
  have z0:(dg n.natAbs).length ≤ sizeLine:=by omega
  have a1:=zc9 [45] (dg n.natAbs)
  have a0':=zc9 [] (dg n.natAbs)
  generalize Str.ofString "0123456789" = F
  by_cases hn:n < 0
  ·have et:tL n=45 :: dg n.natAbs:=by simp [tL,hn]
   rw [et]
   simp [hn,e45,z1,a1]
  ·have et:tL n=dg n.natAbs:=by simp [tL,hn]
   rw [et]
   simp [hn,ee,z0,a0']
 rw [e]
 simp only [zaJ]
 exact zaV
end M
namespace V2
open PySem L2
theorem rngO {f:Ev→Mo (List A)} {ρ:Ev} {Ω Ω':Sto} {j:Int} (h:f ρ Ω=some (.ok [.int j],Ω')) (hs:za8 j):zem f ρ Ω=some (.ok (zcj 0 j.toNat),Ω'):=by
 unfold zem
 rw [znd h]
 show mb (chk (za8 j)) _ Ω'=_
 rw [zjU _ hs]
 rfl
theorem forO {fi:Ev→Mo Src} {g:A→MS} {b:MS} {ρ:Ev} {Ω Ω':Sto} {S:Src} (h:fi ρ Ω=some (.ok S,Ω')):sFor fi g b ρ Ω=fFor S.ok g b S.ds ρ Ω':=by
 unfold sFor
 rw [zlX h]
theorem zeN {n:Nat}:∀ {as:List A},(∀ a ∈ as,Cl n a)→ClL n as
 | [],_=>by simp only [ClL]
 | a :: as,h=>by simp only [ClL];exact ⟨h a (List.mem_cons_self ..),zeN fun b hb=>h b (List.mem_cons_of_mem _ hb)⟩
end V2
namespace M
open PySem L2 V2
abbrev Rn:=Int × Int
def whole (rs:List Rn):Int:=(rs.map (·.2)).sum
end M
namespace M
open PySem L2 V2
def okL (l:List Nat):Prop:=∀ c ∈ l,c < 128
theorem zf5 {l:List Nat} (h:okL l):pur 8 (.str (L2S l))=true:=by
 show PyData.strOk (L2S l)=true
 unfold PyData.strOk
 simp only [L2S,List.all_toArray,List.all_eq_true,decide_eq_true_eq]
 intro c hc
 have:=h c hc
 omega
theorem zkI {a b:List Nat} (ha:okL a) (hb:okL b) (Ω:Sto):gEq (.str (L2S a)) (.str (L2S b)) Ω=some (.ok (.bl (a == b)),Ω):=by
 have e:(L2S a == L2S b)=(a == b):=by
  by_cases h:a=b
  ·subst h;simp
  ·have:¬ L2S a=L2S b:=fun z=>h (zfN z)
   rw [beq_eq_false_iff_ne.mpr h,beq_eq_false_iff_ne.mpr this]
 have h1:=zf5 ha
 have h2:=zf5 hb
 have r1:res Ω 6 (.str (L2S a))=some (.str (L2S a)):=by
  simp [res,h1]
 have r2:res Ω 6 (.str (L2S b))=some (.str (L2S b)):=by
  simp [res,h2]
 unfold gEq gEqB
 rw [r1,r2]
 simp only [h1,h2,Bool.and_self,if_true]
 show some (Rs.ok (A.bl (L2S a == L2S b)),Ω)=_
 rw [e]
theorem zmZ (n:Int):okL (tL n):=fun c hc=>by
 unfold tL at hc
 have:=zgB n.natAbs n.natAbs (Nat.le_refl _) c
 split at hc
 ·rcases List.mem_cons.mp hc with z | z
  ·omega
  ·have:=this z;omega
 ·have:=this hc;omega
theorem zdj (c d:Nat) (r:List Nat):Txt.startswith (L2S (c :: r)) ⟨#[d]⟩ = (c == d):=by
 have e:((c :: r).toArray.extract 0 1) = #[c]:=by simp
 show (decide (0 + 1 ≤ (L2S (c :: r)).length) && ((c :: r).toArray.extract 0 (0 + 1) == #[d]))=_
 rw [za5,show (0 + 1:Nat)=1 from rfl,e]
 simp
theorem zit (c:Nat) (r:List Nat):Txt.slice (L2S (c :: r)) (some 1) none=L2S r:=by
 rw [PyProof.Rows.slice_from_eq (b:=((c :: r).length:Int)) (by decide) (by rw [za5];simp;omega) (by rw [za5])]
 rw [zdD]
 show L2S _=_
 congr 1
 have:(((c :: r).length:Int) - 1).toNat=r.length:=by simp
 rw [this];simp
theorem zmA:∀ c,48 ≤ c→c ≤ 57→zjj ⟨#[c]⟩ (Str.ofString "0123456789")=true:=by
 intro c h1 h2
 unfold zjj
 rw [StrLaws.found_one]
 have e:(Str.ofString "0123456789").cps.toList=[48,49,50,51,52,53,54,55,56,57]:=by decide
 rw [e]
 simp only [List.mem_cons,List.not_mem_nil,or_false,decide_eq_true_eq]
 omega
theorem zmK {m:Nat} (h:m < 10 ^ 60):m.log2 < 1920:=by
 by_cases h0:m=0
 ·subst h0;decide
 ·have:m.log2 < 200:=by
   rw [Nat.log2_lt h0]
   exact Nat.lt_of_lt_of_le h (by decide)
  omega
theorem join_one (x:Str):Txt.join (Str.ofString "") [x]=x:=by cases x;rfl
theorem zfb (k m:Nat) (h:m < 10 ^ 60) (Ω:Sto):zam (k + 1) [.int m] Ω=some (.ok (.str (L2S (dg m))),Ω):=by
 show trim Ω (outR (zaH (zam k) [some (.int m),none] Ω))=_
 have n0:¬ (m:Int) < 0:=by omega
 have pw:CPow 10 60:=⟨by decide,by decide,by decide⟩
 have nb : ¬ ((10 : Int) ^ 60 ≤ (m : Int)) := by have : ((10 ^ 60 : Nat) : Int) = (10 : Int) ^ 60 := by decide
                                                 omega
 have lg:=zmK h
 have ds:Str.ofString (Int.repr (m:Int))=L2S (dg m):=zlK m
 have hl:=zeM (k:=60) (by decide) h
 have e:zaH (zam k) [some (.int m),none] Ω=some (.ret (.str (L2S (dg m))),[some (.int m),some (.cel Ω.length)],Ω ++ [.lst [.str (L2S (dg m))]]):=by
  unfold zaH
  rw [zat (ρ1:=[some (.int m),none]) (Ω':=Ω) (by simp [n0])]
  rw [zat (ρ1:=[some (.int m),some (.cel Ω.length)]) (Ω':=Ω ++ [.lst []]) (by simp [mkL])]
  rw [zat (ρ1:=[some (.int m),some (.cel Ω.length)]) (Ω':=Ω ++ [.lst []]) (by
   refine zg4 (n:=999999) ?_
   simp [zb3,pw]
   omega)]
  have cl:zd3 (Ω ++ [Cell.lst []]) (.cel Ω.length)=some (Ω.length,[]):=zc5 (by simp)
  have il:isL (Ω ++ [Cell.lst []]) (.cel Ω.length):=zgA (zbl (ds:=[]) (by simp))
  have s0:(0:Nat) < sizeLine:=by decide
  rw [zat (ρ1:=[some (.int m),some (.cel Ω.length)]) (Ω':=Ω ++ [.lst [.str (L2S (dg m))]]) (by
   simp [lg,ds,cl,il,s0])]
  have li:zaj (Ω ++ [Cell.lst [.str (L2S (dg m))]]) (.cel Ω.length)=some [.str (L2S (dg m))]:=zbl (by simp)
  have sm:sumL [L2S (dg m)] + [L2S (dg m)].length * (Str.ofString "").length ≤ 16777216:=by
   have:(Str.ofString "").length=0:=by decide
   rw [this];simp [sumL];omega
  have jo:=join_one (L2S (dg m))
  have so:strsOf [.str (L2S (dg m))]=some [L2S (dg m)]:=rfl
  generalize L2S (dg m)=T at li sm jo so
  generalize Str.ofString "" = Z at sm jo
  have sm2:sumL [T] + Z.length ≤ 16777216:=by simpa using sm
  simp [li,so,sm2,jo]
 rw [e]
 simp only [zaJ]
 exact zeB (by simp only [Cl])
theorem zkr {n:Int} (h:Few n) (Ω:Sto):zam 2 [.int n] Ω=some (.ok (.str (L2S (tL n))),Ω):=by
 by_cases hn:n < 0
 ·have et:tL n=45 :: dg n.natAbs:=by simp [tL,hn]
  have en : -n=(n.natAbs:Int):=by omega
  have p:=zfb 0 n.natAbs h Ω
  have hl:=zeM (k:=60) (by decide) h
  have e45:Str.ofString "-" = L2S [45]:=rfl
  have z1:1 + (dg n.natAbs).length ≤ sizeLine:=by rw [sizeLine_eq];omega
  have a1:=zc9 [45] (dg n.natAbs)
  rw [et]
  show trim Ω (outR (zaH (zam 1) [some (.int n),none] Ω))=_
  have e:zaH (zam 1) [some (.int n),none] Ω=some (.ret (.str (L2S (45 :: dg n.natAbs))),[some (.int n),none],Ω):=by
   unfold zaH
   generalize zam 1=F1 at p
   rw [ziC (a := .str (L2S (45 :: dg n.natAbs))) (ρ1:=[some (.int n),none]) (Ω':=Ω) (by simp [hn,zau,en,p,e45,z1,a1])]
  rw [e]
  simp only [zaJ]
  exact zaV
 ·have et:tL n=dg n.natAbs:=by simp [tL,hn]
  have en:n=(n.natAbs:Int):=by omega
  rw [et]
  have p:=zfb 1 n.natAbs h Ω
  rw [← en] at p
  exact p
theorem zh8:∀ l:List Nat,(l.map fun c=>A.str ⟨#[c]⟩).filterMap (fun _=>some (A.bl true))=(l.map fun _=>true).map A.bl
 | []=>rfl
 | c :: r=>by
  have:=zh8 r
  simp only [List.map_cons,List.filterMap_cons,this]
theorem zk0 (Ω:Sto) (x0:Option A) (l:List Nat) (hl:l.length ≤ 1000) (hd:∀ c ∈ l,48 ≤ c∧c ≤ 57):zcL [x0,some (.str (L2S l))] Ω=some (.ok (.lst ((l.map fun _=>true).map A.bl)),Ω):=by
 have as:ascii (L2S l)=true:=by
  unfold ascii
  simp only [L2S,List.all_toArray,List.all_eq_true,decide_eq_true_eq]
  intro c hc
  have:=hd c hc
  omega
 have ef:(zdp (L2S l)).filterMap (fun _=>some (A.bl true))=(l.map fun _=>true).map A.bl:=by
  simp only [zdp,zdD]
  exact zh8 l
 rw [← ef]
 refine zgR (n:=1) (js:=[]) (fi:=ziO (vVar 1)) (Ω:=Ω) (Ω0:=Ω) (S:=zd7 (L2S l)) (fun _=>some (A.bl true)) (fun ρ=>∃ y,ρ=[y]) (by simp [as]) (fun ys=>trivial) ⟨none,by simp [lcEv]⟩ (by simp [zdp];omega) (fun x hx ρ hP ys=>?_) ?_
 ·obtain ⟨y,rfl⟩:=hP
  simp only [zd7,zdp,zdD,List.mem_map] at hx
  obtain ⟨c,hc,rfl⟩:=hx
  have fi:=zmA c (hd c hc).1 (hd c hc).2
  exact ⟨[some (.str ⟨#[c]⟩)],⟨_,rfl⟩,by simp, .inl ⟨.bl true,rfl,by simp [yesM],by simp [fi]⟩⟩
 ·simp only [zd7]
  rw [ef]
  exact zeN fun a ha=>by obtain ⟨i,_,rfl⟩:=List.mem_map.mp ha;simp only [Cl]
theorem zfQ {n:Int} (h:Few n) (Ω:Sto):zbJ [.str (L2S (tL n))] Ω=some (.ok (.bl true),Ω):=by
 show trim Ω (outR (zb7 [some (.str (L2S (tL n))),none] Ω))=_
 have hl:=zeM (k:=60) (by decide) h
 have hd:=zgB n.natAbs n.natAbs (Nat.le_refl _)
 have e45:Str.ofString "-" = ⟨#[45]⟩:=rfl
 have e48:Str.ofString "0" = ⟨#[48]⟩:=rfl
 have e48':Str.ofString "0" = L2S [48]:=rfl
 have qq:=zk0 Ω (some (.str (L2S (tL n)))) (dg n.natAbs) (by omega) hd
 have h1:1 ≤ (dg n.natAbs).length:=by
  have:=zjf n.natAbs
  cases hq:dg n.natAbs with
  | nil=>exact absurd hq this
  | cons c r=>simp
 have ge:=zkI (zmZ n) (b:=[48]) (fun c hc=>by simp at hc;omega) Ω
 have first:(vIf (zbE (vBS zdS (vVar 0) (zac (cS "-") a0))) (vSlS (vVar 0) (cI 1)) (vVar 0)) [some (.str (L2S (tL n))),none] Ω=some (.ok (.str (L2S (dg n.natAbs))),Ω):=by
  have hz:=zeT h
  have hz2:(tL n).length ≤ sizeLine:=by rw [sizeLine_eq];omega
  by_cases hn:n < 0
  ·have et:tL n=45 :: dg n.natAbs:=by simp [tL,hn]
   rw [et] at hz2 ⊢
   have s1:=zdj 45 45 (dg n.natAbs)
   have s2:=zit 45 (dg n.natAbs)
   have hz3:(L2S (45 :: dg n.natAbs)).length ≤ sizeLine:=by rw [za5];exact hz2
   generalize L2S (45 :: dg n.natAbs)=T at s1 s2 hz3
   rw [← e45] at s1
   generalize Str.ofString "-" = D at s1
   simp [s1,s2,hz3]
  ·have et:tL n=dg n.natAbs:=by simp [tL,hn]
   rw [et]
   obtain ⟨c,r,er⟩ : ∃ c r,dg n.natAbs=c :: r:=by
    cases hq:dg n.natAbs with
    | nil=>exact absurd hq (zjf _)
    | cons c r=>exact ⟨c,r,rfl⟩
   have hc:=hd c (by rw [er];simp)
   have s1:=zdj c 45 r
   have sb:(c == 45)=false:=by simp;omega
   rw [sb,← er,← e45] at s1
   generalize L2S (dg n.natAbs)=T at s1
   generalize Str.ofString "-" = D at s1
   simp [s1]
 have e:∃ ρ,zb7 [some (.str (L2S (tL n))),none] Ω=some (.ret (.bl true),ρ,Ω):=by
  refine ⟨[some (.str (L2S (tL n))),some (.str (L2S (dg n.natAbs)))],?_⟩
  unfold zb7
  rw [zat (ρ1:=[some (.str (L2S (tL n))),some (.str (L2S (dg n.natAbs)))]) (Ω':=Ω) (by
   unfold sAsg
   rw [zlX first]
   simp)]
  rw [zat (ρ1:=[some (.str (L2S (tL n))),some (.str (L2S (dg n.natAbs)))]) (Ω':=Ω) (by
   have z1:(L2S (dg n.natAbs)).length ≤ sizeLine:=by rw [za5,sizeLine_eq];omega
   have z2:¬ (((L2S (dg n.natAbs)).length:Nat):Int) < 1:=by rw [za5];omega
   have z3:¬ (60:Int) < (((L2S (dg n.natAbs)).length:Nat):Int):=by rw [za5];omega
   generalize L2S (dg n.natAbs)=T at z1 z2 z3
   generalize L2S (tL n)=T2
   simp [z1,z2,z3])]
  rw [zat (ρ1:=[some (.str (L2S (tL n))),some (.str (L2S (dg n.natAbs)))]) (Ω':=Ω) (by
   have al:((dg n.natAbs).map fun _=>true).all id=true:=by simp
   generalize ((dg n.natAbs).map fun _=>true)=bs at qq al
   generalize L2S (dg n.natAbs)=T at qq
   generalize L2S (tL n)=T2 at qq
   have li:zaj Ω (.lst (bs.map A.bl))=some (bs.map A.bl):=rfl
   have bm:=zdV bs
   generalize bs.map A.bl=us at qq li bm
   simp [qq,li,bm,al])]
  by_cases h0:n=0
  ·subst h0
   have:tL 0=[48]:=by decide
   rw [this] at ge ⊢
   rw [← e48'] at ge ⊢
   generalize Str.ofString "0" = Z at ge
   simp [ge]
  ·obtain ⟨c,r,er,c1,c2⟩:=zkn n.natAbs n.natAbs (Nat.le_refl _) (by omega)
   have s1:=zdj c 48 r
   have sb:(c == 48)=false:=by simp;omega
   rw [sb,← er,← e48] at s1
   rw [← e48'] at ge
   generalize L2S (dg n.natAbs)=T at s1
   generalize L2S (tL n)=T2 at ge
   generalize Str.ofString "0" = Z at ge s1
   generalize (tL n == [48])=bb at ge
   cases bb <;> simp [ge,s1]
 obtain ⟨ρ,e⟩:=e
 rw [e]
 simp only [zaJ]
 exact zaV
end M
namespace M
open PySem L2 V2
open Classical in
theorem zcp {α:Type} {n:Nat} {js:List Nat} {fi:Ev→Mo Src} {g:A→MS} {e:Ev→Mo A} {ρ:Ev} {Ω Ω0:Sto} {S:Src} (xs:List α) (enc out:α→A) (P:Ev→Prop) (inj:∀ x y,enc x=enc y→out x=out y)
  (h0:fi ρ Ω=some (.ok S,Ω0)) (hok:∀ ys,S.ok (Ω0 ++ [.lst ys])) (hP:P (lcEv n js ρ)) (hS:S.ds=xs.map enc) (hl:xs.length ≤ 1000000)
  (step:∀ x ∈ xs,∀ ρ,P ρ→∀ ys,∃ ρ1,P ρ1∧g (enc x) ρ (Ω0 ++ [.lst ys])=some (.nx,ρ1,Ω0 ++ [.lst ys])∧e ρ1 (Ω0 ++ [.lst ys])=some (.ok (out x),Ω0 ++ [.lst ys]))
  (hc:∀ x ∈ xs,Cl Ω0.length (out x)):vLC false n js fi g yesM e ρ Ω=some (.ok (.lst (xs.map out)),Ω0):=by
 let F:A→Option A:=fun a=>if h:∃ x,x ∈ xs∧enc x=a then some (out (Classical.choose h)) else none
 have hF:∀ x ∈ xs,F (enc x)=some (out x):=fun x hx=>by
  have h:∃ y,y ∈ xs∧enc y=enc x:=⟨x,hx,rfl⟩
  show (if h:∃ y,y ∈ xs∧enc y=enc x then some (out (Classical.choose h)) else none)=_
  rw [dif_pos h,inj _ _ (Classical.choose_spec h).2]
 have ef:∀ l:List α,(∀ x ∈ l,x ∈ xs)→(l.map enc).filterMap F=l.map out:=by
  intro l
  induction l with
  | nil=>intro _;rfl
  | cons x r ih =>
   intro h
   simp only [List.map_cons,List.filterMap_cons,hF x (h x (by simp)),ih fun y hy=>h y (by simp [hy])]
 have q:=zgR (n:=n) (js:=js) (fi:=fi) (g:=g) (c:=yesM) (e:=e) (ρ:=ρ) (Ω:=Ω) (Ω0:=Ω0) (S:=S) F P h0 hok hP (by rw [hS];simpa using hl) (fun x hx ρ hp ys=>by
  rw [hS] at hx
  obtain ⟨y,hy,rfl⟩:=List.mem_map.mp hx
  obtain ⟨ρ1,h1,h2,h3⟩:=step y hy ρ hp ys
  exact ⟨ρ1,h1,h2, .inl ⟨out y,hF y hy,by simp [yesM],h3⟩⟩) (by
  rw [hS,ef xs fun _ h=>h]
  exact zeN fun a ha=>by obtain ⟨x,hx,rfl⟩:=List.mem_map.mp ha;exact hc x hx)
 rw [hS,ef xs fun _ h=>h] at q
 exact q
theorem J_ok {c:Nat} (hc:c < 128):∀ xs:List (List Nat),(∀ x ∈ xs,okL x)→okL (J c xs):=by
 have key:∀ xs:List (List Nat),(∀ x ∈ xs,okL x)→okL (xs.flatMap fun y=>c :: y):=by
  intro xs h d hd
  obtain ⟨y,hy,hm⟩:=List.mem_flatMap.mp hd
  rcases List.mem_cons.mp hm with z | z
  ·omega
  ·exact h y hy d z
 intro xs h
 cases xs with
 | nil=>intro d hd;simp [J] at hd
 | cons x r =>
  intro d hd
  rcases List.mem_append.mp hd with z | z
  ·exact h x (by simp) d z
  ·exact key r (fun y hy=>h y (by simp [hy])) d z
end M
namespace M
open PySem L2 V2
theorem zlY {a b:Int} (ha:Few a) (hb:Few b) (h:tL a=tL b):a=b:=by
 have e1:=zik ha
 rw [h,zik hb] at e1
 cases e1;rfl
end M
namespace M
open PySem L2 V2
end M
namespace M
open PySem L2 V2
theorem znR {f:Ev→Mo (List A)} {ρ:Ev} {Ω Ω':Sto} {i j:Int} (h:f ρ Ω=some (.ok [.int i, .int j],Ω')) (hs:za8 i∧za8 j):zi9 f ρ Ω=some (.ok (zcj i (j - i).toNat),Ω'):=by
 unfold zi9
 rw [znd h]
 show mb (chk (za8 i∧za8 j)) _ Ω'=_
 rw [zjU _ hs]
 rfl
theorem zfq (x0 x1 x2 x3 x4 x5 x6 x7:A):atI [x0,x1,x2,x3,x4,x5,x6,x7] 4=some x4:=rfl
theorem zfo (x0 x1 x2 x3 x4 x5 x6 x7:A):atI [x0,x1,x2,x3,x4,x5,x6,x7] 5=some x5:=rfl
theorem zfB (x0 x1 x2 x3 x4 x5 x6 x7:A):atI [x0,x1,x2,x3,x4,x5,x6,x7] 6=some x6:=rfl
theorem zfz (x0 x1 x2 x3 x4 x5 x6 x7:A):atI [x0,x1,x2,x3,x4,x5,x6,x7] 7=some x7:=rfl
theorem zl2 {n:Int} (h0 : -(10 ^ 60) < n) (h1:n < 10 ^ 60):Few n:=by
 unfold Few
 have:((10 ^ 60:Nat):Int)=(10:Int) ^ 60:=by decide
 omega
end M
namespace L2
open PySem PySem.Spec PyProof.Rows
def zjS (scope:Scope):Bool:=(scope.kind == .function) && scope.names.all fun y=>y.2 != .cell && (y.2 != .free && (y.2 != .local || scope.names.lookup y.1 == some .local))
theorem LcOk.of0 {X:Cx} {scope:Scope} {ls:List Str} (ok:zjS scope=true):LcOk X scope ls []:=by
 unfold zjS at ok
 rw [Bool.and_eq_true,List.all_eq_true] at ok
 obtain ⟨h1,h2⟩:=ok
 have hl:∀ y ∈ scope.names,y.2 ≠ .cell∧y.2 ≠ .free∧(y.2 = .local→scope.names.lookup y.1=some .local):=fun y hy=>by
  have:=h2 y hy
  rw [Bool.and_eq_true,Bool.and_eq_true,Bool.or_eq_true] at this
  refine ⟨by simpa using this.1,by simpa using this.2.1,fun e=>?_⟩
  rcases this.2.2 with z | z
  ·simp [e] at z
  ·simpa using z
 refine ⟨by simpa using h1,fun y hy=>(hl y hy).1,fun y hy=>(hl y hy).2.2,fun y hy hf=>?_,fun j hj=>?_⟩
 ·exact absurd hf (hl y hy).2.1
 ·simp at hj
end L2
namespace V2
open PySem PySem.Spec PyProof.Rows L2
@[simp] def zeu (a b:A) (xs ys:List A):Src:=⟨zipA xs ys,fun Ω=>zaI Ω a=some xs∧zaI Ω b=some ys⟩
def zi5:A→A→Bool
 | .tup _, .tup _=>true
 | .tup _,_=>false
 | _, .tup _=>false
 | _,_=>true
@[simp] def znc (f g:Ev→Mo A):Ev→Mo Src:=fun ρ=>mb (f ρ) fun a=>mb (g ρ) fun b Ω=>match zaI Ω a,zaI Ω b with
 | some xs,some ys=>if zi5 a b=true then some (.ok (zeu a b xs ys),Ω) else none
 | _,_=>none
end V2
namespace L2
open PySem
theorem zdd {prog:Program} {w:World} {A:Around} {E:Value→Shared→Prop} {s:Shared} {it t:Addr} {i:Nat} {items:Array Value} {x:Value} {Q:Value→Shared→Prop} (hit:s.heap.IsTupleIter it t i) (ht:s.heap.IsTuple t items) (hx:items[i]? = some x)
  (hQ:∀ h',h'.IsTupleIter it t (i + 1)→Heap.SameBut it s.heap h'→Q x { s with heap:=h' }):wpAny (model prog w) A (Builtin.SmallTypes.nextOf (.ref it)) Q E s:=by
 have hty:=hit.typeIs
 obtain ⟨o,ho,hc,hd⟩:=hit
 obtain ⟨o2,ho2,hc2,n,hd2⟩:=ht
 unfold Builtin.SmallTypes.nextOf
 refine wpAny_bind (wpAny_callSpecial?_slot hty F.slot_tuple_iterator_next (wpAny_call_entry F.slot_tuple_iterator_next hty F.entry_tuple_iterator_next ?_ (F.args_tuple_iterator_next_1 _)))
 wp_delta
 wp_delta
 refine wpAny_bind (wpAny_pure ?_)
 refine wpAny_bind (wpAny_field ho hd (i:=0) rfl ?_)
 refine wpAny_ite_false (by simp) ?_
 refine wpAny_bind (wpAny_field ho hd (i:=1) rfl ?_)
 refine wpAny_bind (wpAny_seqItems ho2 hd2 ?_)
 simp only [Int.toNat_natCast,hx]
 have hm:=Obj.data_mapFields hd (fun z=>z.setIfInBounds 1 (rawInt ((i:Int) + 1)))
 refine wpAny_bind (wpAny_setField ho hd (Nat.lt_succ_self 1) ?_)
 exact wpAny_pure ⟨_,rfl,wpAny_pure (hQ _ ⟨_,Heap.get?_update_self _ ho (Obj.isFreed_of_fields hm),by rw [Obj.cls_mapFields,hc],by rw [hm];rfl⟩ (Heap.SameBut.update _ _ _))⟩
theorem zeP {prog:Program} {w:World} {A:Around} {E:Value→Shared→Prop} {s:Shared} {it t:Addr} {i:Nat} {items:Array Value} {Q:Value→Shared→Prop} (hh:A.handled=none) (hit:s.heap.IsTupleIter it t i) (ht:s.heap.IsTuple t items) (hx:items[i]? = none)
  (hE:∀ h' e,Heap.ExtBut it s.heap h'→(∃ o,h'.get? e=some o∧o.cls = .type "StopIteration")→E (.ref e) { s with heap:=h' }):wpAny (model prog w) A (Builtin.SmallTypes.nextOf (.ref it)) Q E s:=by
 have hty:=hit.typeIs
 obtain ⟨o,ho,hc,hd⟩:=hit
 obtain ⟨o2,ho2,hc2,n,hd2⟩:=ht
 unfold Builtin.SmallTypes.nextOf
 refine wpAny_bind (wpAny_callSpecial?_slot hty F.slot_tuple_iterator_next (wpAny_call_entry F.slot_tuple_iterator_next hty F.entry_tuple_iterator_next ?_ (F.args_tuple_iterator_next_1 _)))
 wp_delta
 wp_delta
 refine wpAny_bind (wpAny_pure ?_)
 refine wpAny_bind (wpAny_field ho hd (i:=0) rfl ?_)
 refine wpAny_ite_false (by simp) ?_
 refine wpAny_bind (wpAny_field ho hd (i:=1) rfl ?_)
 refine wpAny_bind (wpAny_seqItems ho2 hd2 ?_)
 simp only [Int.toNat_natCast,hx]
 refine wpAny_bind (wpAny_rule ?_)
 refine wpAny_bind (wpAny_setField ho hd (Nat.lt_of_sub_eq_succ rfl) ?_)
 unfold Builtin.SmallTypes.stopIteration newExc
 refine wpAny_bind (wpAny_bind (wpAny_newTuple ?_ (Nat.zero_le _)))
 refine wpAny_bind ?_
 unfold firstArgMember
 refine wpAny_bind (wpAny_pure (wpAny_pure ?_))
 refine wpAny_newObj_type ?_ (sizeOk_excFields ..)
 unfold raiseNew
 refine wpAny_bind (wpAny_handled_none hh ?_)
 refine wpAny_throw ?_
 refine hE _ _ (((Heap.SameBut.update _ _ _).extBut.push _).push _) ⟨_,Heap.get?_push_size _ ?_,rfl⟩
 rfl
end L2
namespace L2
open PySem
theorem zed {h h':Heap} {i t:Addr} {k:Nat} (q:h.IsTupleIter i t k) (f:∀ o,h.get? i=some o→h'.get? i=some o):h'.IsTupleIter i t k:=by
 obtain ⟨o,q1,q2⟩:=q
 exact ⟨o,f o q1,q2⟩
theorem zhu {h h':Heap} {t:Addr} {xs:Array Value} (q:h.IsTuple t xs) (f:∀ o,h.get? t=some o→h'.get? t=some o):h'.IsTuple t xs:=by
 obtain ⟨o,q1,q2⟩:=q
 exact ⟨o,f o q1,q2⟩
theorem zig {prog:Program} {w:World} {A:Around} {E:Value→Shared→Prop} {s:Shared} {z TI TO i1 i2 l1 l2:Addr} {k1 k2:Nat} {xs ys:Array Value} {x y a b:Value} {Q:Value→Shared→Prop} (D:ZipApart z TI TO i1 i2 l1 l2) (hz:IsZip s.heap z TI TO .none) (hI:IsPair s.heap TI (.ref i1) (.ref i2)) (hO:IsPair s.heap TO a b)
  (hi1:s.heap.IsTupleIter i1 l1 k1) (hi2:s.heap.IsTupleIter i2 l2 k2) (hl1:s.heap.IsTuple l1 xs) (hl2:s.heap.IsTuple l2 ys) (hx:xs[k1]? = some x) (hy:ys[k2]? = some y)
  (hQ:∀ h',IsZip h' z TI TO (rawInt s.heap.objs.size)→IsPair h' TO x y→h'.IsTupleIter i1 l1 (k1 + 1)→h'.IsTupleIter i2 l2 (k2 + 1)→IsPair h' s.heap.objs.size x y→h'.objs.size=s.heap.objs.size + 1 →
   (∀ c o,c ≠ z→c ≠ TO→c ≠ i1→c ≠ i2→s.heap.get? c=some o→h'.get? c=some o)→Q (.ref s.heap.objs.size) { s with heap:=h' }) :
  wpAny (model prog w) A (Builtin.«zip.__next__» { pos:=[.ref z] }) (fun fin s'=>∃ v,fin=Fin.done (Flow.ret v)∧Q v s') E s:=by
 unfold Builtin.«zip.__next__»
 refine wpAny_bind (wpAny_pure ?_)
 refine wpAny_bind (wpAny_field hz rfl (i:=2) rfl ?_)
 refine wpAny_bind (wpAny_field hz rfl (i:=3) rfl ?_)
 refine wpAny_bind (wpAny_seqItems hI rfl ?_)
 refine wpAny_ite_false (by simp) ?_
 unfold Builtin.SmallTypes.ownedTupleIsFree
 refine wpAny_bind (wpAny_bind (wpAny_field hz rfl (i:=0) rfl (wpAny_pure ?_)))
 refine wpAny_ite_true rfl ?_
 refine wpAny_bind (wpAny_rule ?_)
 refine wpAny_bind (wpAny_field hz rfl (i:=4) rfl ?_)
 refine wpAny_bind (wpAny_setField_rec hz (by simp) fun h1 e1 sb1=>?_)
 refine wpAny_bind ?_
 simp only [List.zipIdx,List.forIn_cons]
 refine wpAny_bind ?_
 refine wpAny_bind (wpAny_onRaise ?_)
 wp_delta
 refine wpAny_ite_false (by simp) ?_
 refine wpAny_bind (zdd (hi1.extBut sb1.extBut D.i1z) (hl1.extBut sb1.extBut D.l1z) hx fun h2 n1 sb2=>wpAny_pure ?_)
 have o2:IsPair h2 TO a b:=sb2.extBut _ _ D.TOi1 (sb1.extBut _ _ D.TOz hO)
 refine wpAny_bind (wpAny_seqItems o2 rfl ?_)
 refine wpAny_bind (wpAny_updateSeq_pair o2 fun h3 e3 sb3=>?_)
 refine wpAny_bind (wpAny_letGo (wpAny_pure ?_))
 refine wpAny_bind (wpAny_bind (wpAny_onRaise ?_))
 wp_delta
 refine wpAny_ite_false (by simp) ?_
 have p3:IsPair h3 TO x b:=e3
 have z1:∀ c o,c ≠ z→c ≠ i1→c ≠ TO→s.heap.get? c=some o→h3.get? c=some o:=fun c o q1 q2 q3 q=>sb3.extBut _ _ q3 (sb2.extBut _ _ q2 (sb1.extBut _ _ q1 q))
 refine wpAny_bind (zdd (zed hi2 fun o q=>z1 i2 o D.i2z (Ne.symm D.i12) (Ne.symm D.TOi2) q) (zhu hl2 fun o q=>z1 l2 o D.l2z D.l2i1 D.l2TO q) hy fun h4 n2 sb4=>wpAny_pure ?_)
 have o4:IsPair h4 TO x b:=sb4.extBut _ _ D.TOi2 p3
 refine wpAny_bind (wpAny_seqItems o4 rfl ?_)
 refine wpAny_bind (wpAny_updateSeq_pair o4 fun h5 e5 sb5=>?_)
 refine wpAny_bind (wpAny_letGo (wpAny_pure ?_))
 simp only [List.forIn_nil]
 refine wpAny_pure ?_
 have p5:IsPair h5 TO x y:=e5
 refine wpAny_bind (wpAny_seqItems p5 rfl ?_)
 refine wpAny_bind (wpAny_newTuple ?_ (show 2 ≤ sizeLine by decide))
 unfold Builtin.SmallTypes.ownedTupleHandOut
 have sz:h5.objs.size=s.heap.objs.size:=sb5.1.trans (sb4.1.trans (sb3.1.trans (sb2.1.trans sb1.1)))
 have k5:∀ c o,c ≠ z→c ≠ i1→c ≠ i2→c ≠ TO→s.heap.get? c=some o→h5.get? c=some o:=fun c o q1 q2 q3 q4 q=>sb5.extBut _ _ q4 (sb4.extBut _ _ q3 (z1 c o q1 q2 q4 q))
 have e2:=sb5.extBut _ _ (Ne.symm D.TOz) (sb4.extBut _ _ (Ne.symm D.i2z) (sb3.extBut _ _ (Ne.symm D.TOz) (sb2.extBut _ _ (Ne.symm D.i1z) e1)))
 refine wpAny_bind (wpAny_bind (wpAny_setField_rec (Heap.get?_push_of_some _ e2) (by simp) fun h6 e6 sb6=>?_))
 refine wpAny_setField_rec e6 (by simp) fun h7 e7 sb7=>?_
 have k7:∀ c o,c ≠ z→h5.get? c=some o→h7.get? c=some o:=fun c o q1 q=>sb7.extBut _ _ q1 (sb6.extBut _ _ q1 (Heap.get?_push_of_some _ q))
 have sne:s.heap.objs.size ≠ z:=fun q=>Nat.lt_irrefl z (by have:=Heap.lt_size hz;rwa [q] at this)
 have sT:h7.objs.size=s.heap.objs.size + 1:=by rw [sb7.1,sb6.1,Heap.size_push,sz]
 refine wpAny_pure ⟨_,rfl,?_⟩
 show Q (.ref h5.objs.size) { s with heap:=h7 }
 rw [sz]
 rw [sz] at e7
 refine hQ h7 e7 (k7 TO _ D.TOz p5) (zed n1 fun o q=>k7 i1 o D.i1z (sb5.extBut _ _ (Ne.symm D.TOi1) (sb4.extBut _ _ D.i12 (sb3.extBut _ _ (Ne.symm D.TOi1) q)))) (zed n2 fun o q=>k7 i2 o D.i2z (sb5.extBut _ _ (Ne.symm D.TOi2) q)) ?_ sT
  fun c o q1 q2 q3 q4 q=>k7 c o q1 (k5 c o q1 q3 q4 q2 q)
 have hp:(h5.push { cls := .type "tuple",data := .seq #[x,y] }).get? s.heap.objs.size=some { cls := .type "tuple",data := .seq #[x,y] }:=by
  rw [← sz];exact Heap.get?_push_size _ rfl
 exact sb7.extBut _ _ sne (sb6.extBut _ _ sne hp)
theorem ziY {prog:Program} {w:World} {A:Around} {E:Value→Shared→Prop} {s:Shared} {z TI TO i1 i2 l1 l2:Addr} {k1 k2:Nat} {xs ys:Array Value} {a b:Value} {Q:PySem.Fin→Shared→Prop} (hh:A.handled=none) (D:ZipApart z TI TO i1 i2 l1 l2) (hz:IsZip s.heap z TI TO .none) (hI:IsPair s.heap TI (.ref i1) (.ref i2)) (hO:IsPair s.heap TO a b)
  (hi1:s.heap.IsTupleIter i1 l1 k1) (hi2:s.heap.IsTupleIter i2 l2 k2) (hl1:s.heap.IsTuple l1 xs) (hl2:s.heap.IsTuple l2 ys) (hx:xs[k1]? = none∨ys[k2]? = none)
  (hE:∀ h' e,(∀ c o,c ≠ z→c ≠ TO→c ≠ i1→c ≠ i2→s.heap.get? c=some o→h'.get? c=some o)→(∃ o,h'.get? e=some o∧o.cls = .type "StopIteration")→E (.ref e) { s with heap:=h' }) :
  wpAny (model prog w) A (Builtin.«zip.__next__» { pos:=[.ref z] }) Q E s:=by
 unfold Builtin.«zip.__next__»
 refine wpAny_bind (wpAny_pure ?_)
 refine wpAny_bind (wpAny_field hz rfl (i:=2) rfl ?_)
 refine wpAny_bind (wpAny_field hz rfl (i:=3) rfl ?_)
 refine wpAny_bind (wpAny_seqItems hI rfl ?_)
 refine wpAny_ite_false (by simp) ?_
 unfold Builtin.SmallTypes.ownedTupleIsFree
 refine wpAny_bind (wpAny_bind (wpAny_field hz rfl (i:=0) rfl (wpAny_pure ?_)))
 refine wpAny_ite_true rfl ?_
 refine wpAny_bind (wpAny_rule ?_)
 refine wpAny_bind (wpAny_field hz rfl (i:=4) rfl ?_)
 refine wpAny_bind (wpAny_setField_rec hz (by simp) fun h1 e1 sb1=>?_)
 refine wpAny_bind ?_
 simp only [List.zipIdx,List.forIn_cons]
 refine wpAny_bind ?_
 refine wpAny_bind (wpAny_onRaise ?_)
 wp_delta
 refine wpAny_ite_false (by simp) ?_
 cases hx1:xs[k1]? with
 | none =>
  refine wpAny_bind (zeP hh (hi1.extBut sb1.extBut D.i1z) (hl1.extBut sb1.extBut D.l1z) hx1 fun h2 e xb he=>?_)
  have e2:=xb _ _ (Ne.symm D.i1z) e1
  refine wpAny_setField_rec e2 (by simp) fun h3 e3 sb3=>?_
  obtain ⟨oe,he1,he2⟩:=he
  refine hE _ _ (fun c o q1 q2 q3 q4 q=>sb3.extBut _ _ q1 (xb _ _ q3 (sb1.extBut _ _ q1 q))) ⟨oe,sb3.extBut _ _ (fun q=>?_) he1,he2⟩
  subst q
  rw [e2] at he1;cases he1;exact absurd he2 (show Value.type "zip" ≠ Value.type "StopIteration" by decide)
 | some x =>
  refine wpAny_bind (zdd (hi1.extBut sb1.extBut D.i1z) (hl1.extBut sb1.extBut D.l1z) hx1 fun h2 n1 sb2=>wpAny_pure ?_)
  have o2:IsPair h2 TO a b:=sb2.extBut _ _ D.TOi1 (sb1.extBut _ _ D.TOz hO)
  refine wpAny_bind (wpAny_seqItems o2 rfl ?_)
  refine wpAny_bind (wpAny_updateSeq_pair o2 fun h3 e3 sb3=>?_)
  refine wpAny_bind (wpAny_letGo (wpAny_pure ?_))
  refine wpAny_bind (wpAny_bind (wpAny_onRaise ?_))
  wp_delta
  refine wpAny_ite_false (by simp) ?_
  have z1:∀ c o,c ≠ z→c ≠ i1→c ≠ TO→s.heap.get? c=some o→h3.get? c=some o:=fun c o q1 q2 q3 q=>sb3.extBut _ _ q3 (sb2.extBut _ _ q2 (sb1.extBut _ _ q1 q))
  have hy:ys[k2]? = none:=hx.resolve_left (by rw [hx1];exact fun q=>nomatch q)
  refine wpAny_bind (zeP hh (zed hi2 fun o q=>z1 i2 o D.i2z (Ne.symm D.i12) (Ne.symm D.TOi2) q) (zhu hl2 fun o q=>z1 l2 o D.l2z D.l2i1 D.l2TO q) hy fun h4 e xb he=>?_)
  have e2:=xb _ _ (Ne.symm D.i2z) (sb3.extBut _ _ (Ne.symm D.TOz) (sb2.extBut _ _ (Ne.symm D.i1z) e1))
  refine wpAny_setField_rec e2 (by simp) fun h5 e5 sb5=>?_
  obtain ⟨oe,he1,he2⟩:=he
  refine hE _ _ (fun c o q1 q2 q3 q4 q=>sb5.extBut _ _ q1 (xb _ _ q4 (z1 c o q1 q3 q2 q))) ⟨oe,sb5.extBut _ _ (fun q=>?_) he1,he2⟩
  subst q
  rw [e2] at he1;cases he1;exact absurd he2 (show Value.type "zip" ≠ Value.type "StopIteration" by decide)
theorem zfO {prog:Program} {w:World} {A:Around} {E:Value→Shared→Prop} {s:Shared} {z TI TO i1 i2 l1 l2:Addr} {k1 k2:Nat} {xs ys:Array Value} {x y a b:Value} {Q:Option Value→Shared→Prop} (D:ZipApart z TI TO i1 i2 l1 l2) (hz:IsZip s.heap z TI TO .none) (hI:IsPair s.heap TI (.ref i1) (.ref i2)) (hO:IsPair s.heap TO a b)
  (hi1:s.heap.IsTupleIter i1 l1 k1) (hi2:s.heap.IsTupleIter i2 l2 k2) (hl1:s.heap.IsTuple l1 xs) (hl2:s.heap.IsTuple l2 ys) (hx:xs[k1]? = some x) (hy:ys[k2]? = some y)
  (hQ:∀ h',IsZip h' z TI TO (rawInt s.heap.objs.size)→IsPair h' TO x y→h'.IsTupleIter i1 l1 (k1 + 1)→h'.IsTupleIter i2 l2 (k2 + 1)→IsPair h' s.heap.objs.size x y→h'.objs.size=s.heap.objs.size + 1 →
   (∀ c o,c ≠ z→c ≠ TO→c ≠ i1→c ≠ i2→s.heap.get? c=some o→h'.get? c=some o)→Q (some (.ref s.heap.objs.size)) { s with heap:=h' }) :
  wpAny (model prog w) A (pyNext (.ref z)) Q E s:=by
 have hty:s.TypeIs (.ref z) "zip":=⟨_,hz,rfl⟩
 unfold pyNext
 refine wpAny_bind (wpAny_attempt (wpAny_callSpecial?_slot hty F.slot_zip_next (wpAny_call_entry F.slot_zip_next hty F.entry_zip_next (zig D hz hI hO hi1 hi2 hl1 hl2 hx hy fun h' g1 g2 g3 g4 g5 g6 g7=>?_) (F.args_zip_next_1 _))))
 exact wpAny_pure (hQ h' g1 g2 g3 g4 g5 g6 g7)
theorem zg0 {prog:Program} {w:World} {A:Around} {E:Value→Shared→Prop} {s:Shared} {z TI TO i1 i2 l1 l2:Addr} {k1 k2:Nat} {xs ys:Array Value} {a b:Value} {Q:Option Value→Shared→Prop} (hh:A.handled=none) (D:ZipApart z TI TO i1 i2 l1 l2) (hz:IsZip s.heap z TI TO .none) (hI:IsPair s.heap TI (.ref i1) (.ref i2)) (hO:IsPair s.heap TO a b)
  (hi1:s.heap.IsTupleIter i1 l1 k1) (hi2:s.heap.IsTupleIter i2 l2 k2) (hl1:s.heap.IsTuple l1 xs) (hl2:s.heap.IsTuple l2 ys) (hx:xs[k1]? = none∨ys[k2]? = none)
  (hQ:∀ h',(∀ c o,c ≠ z→c ≠ TO→c ≠ i1→c ≠ i2→s.heap.get? c=some o→h'.get? c=some o)→Q none { s with heap:=h' }) :
  wpAny (model prog w) A (pyNext (.ref z)) Q E s:=by
 have hty:s.TypeIs (.ref z) "zip":=⟨_,hz,rfl⟩
 unfold pyNext
 refine wpAny_bind (wpAny_attempt (wpAny_callSpecial?_slot hty F.slot_zip_next (wpAny_call_entry F.slot_zip_next hty F.entry_zip_next (ziY hh D hz hI hO hi1 hi2 hl1 hl2 hx fun h' e g1 g2=>?_) (F.args_zip_next_1 _))))
 refine wpAny_bind (wpAny_isInstance (T := "StopIteration") g2 isSubtype_stop ?_)
 exact wpAny_ite_true rfl (wpAny_pure (hQ h' g1))
theorem zhf (t1 t2:Addr) (xs ys:Array Value):Meets (Builtin.«zip.__new__» { pos:=[.type "zip", .ref t1, .ref t2] }) fun _ R s=>s.heap.IsTuple t1 xs∧s.heap.IsTuple t2 ys ∧
  ∀ h',IsZip h' (s.heap.objs.size + 4) (s.heap.objs.size + 2) (s.heap.objs.size + 3) .none→IsPair h' (s.heap.objs.size + 2) (.ref s.heap.objs.size) (.ref (s.heap.objs.size + 1))→IsPair h' (s.heap.objs.size + 3) .none .none →
   h'.IsTupleIter s.heap.objs.size t1 0→h'.IsTupleIter (s.heap.objs.size + 1) t2 0→h'.objs.size=s.heap.objs.size + 5→(∀ c o,s.heap.get? c=some o→h'.get? c=some o)→R (.ok (.ret (.ref (s.heap.objs.size + 4)))) { s with heap:=h' }:=by
 refine Meets.of_wp fun prog w A R s h=>?_
 obtain ⟨h1,h2,hR⟩:=h
 unfold Builtin.«zip.__new__» Builtin.SmallTypes.newClass
 refine wpAny_bind (wpAny_bind (wpAny_of_eq (a:=true) rfl ?_))
 refine wpAny_ite_false rfl ?_
 refine wpAny_bind (wpAny_of_eq sub_zip ?_)
 refine wpAny_ite_false rfl (wpAny_pure ?_)
 refine wpAny_ite_false (by simp) ?_
 unfold Builtin.SmallTypes.iterAll
 simp only [List.forIn_cons,List.forIn_nil]
 refine wpAny_bind (wpAny_bind (wpAny_bind (wpAny_bind (wpAny_holding (wpAny_pyIter_tuple h1 (wpAny_pure ?_))))))
 refine wpAny_bind (wpAny_bind (wpAny_holding (wpAny_pyIter_tuple (zhu h2 fun o q=>Heap.get?_push_of_some _ q) (wpAny_pure ?_))))
 refine wpAny_pure (wpAny_pure ?_)
 refine wpAny_bind (wpAny_newTuple ?_ (show 2 ≤ sizeLine by decide))
 refine wpAny_bind (wpAny_newTuple ?_ (show 2 ≤ sizeLine by decide))
 unfold Builtin.SmallTypes.newRecord
 refine wpAny_bind (wpAny_newObj_type ?_ ?_)
 ·refine wpAny_pure ⟨_,rfl,?_⟩
  have key:∀ h5:Heap,h5=((((s.heap.push { cls := .type "tuple_iterator",data := .fields #[.ref t1, .int 0 0] }).push { cls := .type "tuple_iterator",data := .fields #[.ref t2, .int 0 0] }).push { cls := .type "tuple",data := .seq #[.ref s.heap.objs.size, .ref (s.heap.objs.size + 1)] }).push { cls := .type "tuple",data := .seq #[.none, .none] }).push
    { cls := .type "zip",data := .fields #[.none, .bool false, .bool false, .ref (s.heap.objs.size + 2), .ref (s.heap.objs.size + 3)] }→R (.ok (.ret (.ref (s.heap.objs.size + 4)))) { s with heap:=h5 }:=by
   intro h5 e5
   subst e5
   refine hR _ ?_ ?_ ?_ ⟨{ cls := .type "tuple_iterator",data := .fields #[.ref t1, .int 0 0] },?_,rfl,rfl⟩ ⟨{ cls := .type "tuple_iterator",data := .fields #[.ref t2, .int 0 0] },?_,rfl,rfl⟩ (by simp only [Heap.size_push]) fun c o q=>Heap.get?_push_of_some _ (Heap.get?_push_of_some _ (Heap.get?_push_of_some _ (Heap.get?_push_of_some _ (Heap.get?_push_of_some _ q))))
   ·exact Heap.get?_push_at (by simp only [Heap.size_push]) rfl
   ·exact Heap.get?_push_of_some _ (Heap.get?_push_of_some _ (Heap.get?_push_at (by simp only [Heap.size_push]) rfl))
   ·exact Heap.get?_push_of_some _ (Heap.get?_push_at (by simp only [Heap.size_push]) rfl)
   ·exact Heap.get?_push_of_some _ (Heap.get?_push_of_some _ (Heap.get?_push_of_some _ (Heap.get?_push_of_some _ (Heap.get?_push_at rfl rfl))))
   ·exact Heap.get?_push_of_some _ (Heap.get?_push_of_some _ (Heap.get?_push_of_some _ (Heap.get?_push_at (by simp only [Heap.size_push]) rfl)))
  have k:=key _ rfl
  simp only [Heap.size_push]
  exact k
 ·show 5 ≤ sizeLine + 2
  decide
theorem zhW {prog:Program} {w:World} {A:Around} {E:Value→Shared→Prop} {s:Shared} {t1 t2:Addr} {xs ys:Array Value} {Q:Value→Shared→Prop} (h1:s.heap.IsTuple t1 xs) (h2:s.heap.IsTuple t2 ys)
  (hQ:∀ h',IsZip h' (s.heap.objs.size + 4) (s.heap.objs.size + 2) (s.heap.objs.size + 3) .none→IsPair h' (s.heap.objs.size + 2) (.ref s.heap.objs.size) (.ref (s.heap.objs.size + 1))→IsPair h' (s.heap.objs.size + 3) .none .none →
   h'.IsTupleIter s.heap.objs.size t1 0→h'.IsTupleIter (s.heap.objs.size + 1) t2 0→h'.objs.size=s.heap.objs.size + 5→(∀ c o,s.heap.get? c=some o→h'.get? c=some o)→Q (.ref (s.heap.objs.size + 4)) { s with heap:=h' }) :
  wpAny (model prog w) A (call (.type "zip") [.ref t1, .ref t2]) Q E s :=
 callType_new F.called_zip rfl (F.typeCall_zip_2 _ _) (F.newCall_zip_2 _ _) (fun _=>F.args_object_init_3 _ _ _) F.entry_zip_new (zhf t1 t2 xs ys) ⟨h1,h2,fun h' g1 g2 g3 g4 g5 g6 g7=>⟨⟨_,g1,rfl⟩,hQ h' g1 g2 g3 g4 g5 g6 g7⟩⟩
end L2
namespace V2
open PySem PySem.Spec PyProof.Rows L2
def ItzT (K:PySem.W.Frag) (a b:Addr):It :=
 ⟨fun i H=>∃ xs ys x y,SqT K H a xs∧SqT K H b ys∧xs[i]? = some x∧ys[i]? = some y,fun i H x H'=>∃ p y z,H p=none∧H'=upd H p (.tup [y,z])∧x = .ref p∧(∀ xs,SqT K H a xs→xs[i]? = some y)∧(∀ ys,SqT K H b ys→ys[i]? = some z),
  fun i H=>∃ xs ys,SqT K H a xs∧SqT K H b ys∧(xs.length ≤ i∨ys.length ≤ i)⟩
theorem zim {P:Program} {w:World} {K:PySem.W.Frag} {elts:List Expr} {x1:Nat} {tp:Pos} (a b z TI TO i1 i2:Addr) (D:ZipApart z TI TO i1 i2 a b) :
  Turn P w K (.Tuple elts x1 tp) (ItzT K a b) [z,TI,TO,i1,i2] z (fun i h=>IsZip h z TI TO .none∧IsPair h TI (.ref i1) (.ref i2)∧(∃ u v,IsPair h TO u v)∧h.IsTupleIter i1 a i∧h.IsTupleIter i2 b i) where
 mem:=by simp
 obj:=fun i h st c hc=>by
  obtain ⟨s1,s2,⟨u,v,s3⟩,⟨o1,q1,c1,d1⟩,⟨o2,q2,c2,d2⟩⟩:=st
  simp only [List.mem_cons,List.not_mem_nil,or_false] at hc
  rcases hc with e | e | e | e | e <;> subst e
  ·exact ⟨_,s1,fun v z=>by cases z⟩
  ·exact ⟨_,s2,fun v z=>by cases z⟩
  ·exact ⟨_,s3,fun v z=>by cases z⟩
  ·exact ⟨o1,q1,fun v z=>by rw [d1] at z;cases z⟩
  ·exact ⟨o2,q2,fun v z=>by rw [d2] at z;cases z⟩
 keep:=fun i h h' st k=>⟨k z (by simp) _ st.1,k TI (by simp) _ st.2.1,let ⟨u,v,q⟩:=st.2.2.1; ⟨u,v,k TO (by simp) _ q⟩,zed st.2.2.2.1 fun o q=>k i1 (by simp) o q,zed st.2.2.2.2 fun o q=>k i2 (by simp) o q⟩
 item:=by
  intro X hP hw hK hc i pins s σ H E I hf st hg
  subst hP hw hK
  obtain ⟨s1,s2,⟨u0,v0,s3⟩,s4,s5⟩:=st
  obtain ⟨xs,ys,x,y,hq1,hq2,hx,hy⟩:=hg
  obtain ⟨its1,rv1,p1,_⟩:=I.tuple hq1
  obtain ⟨its2,rv2,p2,_⟩:=I.tuple hq2
  obtain ⟨u,hu,ru⟩:=rv1.get hx
  obtain ⟨v,hv,rv⟩:=rv2.get hy
  have hsz:z < s.heap.objs.size:=Heap.lt_size s1
  have hst:TO < s.heap.objs.size:=Heap.lt_size s3
  have hsT:TI < s.heap.objs.size:=Heap.lt_size s2
  have hs1:i1 < s.heap.objs.size:=let ⟨_,q,_⟩:=s4;Heap.lt_size q
  have hs2:i2 < s.heap.objs.size:=let ⟨_,q,_⟩:=s5;Heap.lt_size q
  refine zfO D s1 s2 s3 s4 s5 (show s.heap.IsTuple a its1.toArray from p1) (show s.heap.IsTuple b its2.toArray from p2) (x:=u) (y:=v) (by simpa using hu) (by simpa using hv) fun h1 a1 a2 a3 a4 a5 a6 a7=>?_
  refine ⟨_,rfl,wpAny_letOwnedTupleGo_zip (s:={ s with heap:=h1 }) a1 fun h2 e2 sb=>?_⟩
  have hp0:H s.heap.objs.size=none:=I.hok.fresh (Nat.le_refl _)
  have k2:∀ c o,c ∉ [z,TO,i1,i2]→s.heap.get? c=some o→h2.get? c=some o:=fun c o hc q=>by
   simp only [List.mem_cons,List.not_mem_nil,or_false,not_or] at hc
   exact sb.extBut c o hc.1 (a7 c o hc.1 hc.2.1 hc.2.2.1 hc.2.2.2 q)
  have hf':∀ c ∈ [z,TO,i1,i2],FpOk X pins H c:=fun c hc=>hf c (by
   simp only [List.mem_cons,List.not_mem_nil,or_false] at hc ⊢
   rcases hc with e | e | e | e <;> simp [e])
  have t2:h2.get? s.heap.objs.size=some { cls := .type "tuple",data := .seq #[u,v] }:=sb.extBut _ _ (Nat.ne_of_gt hsz) a5
  have I1:Inv X pins σ H { s with heap:=h2 }:=Inv.zeH (t':=s.toks) I k2 hf'
  have hok:HOk X.prog X.w (upd H s.heap.objs.size (.tup [x,y])) h2:=by
   refine fun b o q=>?_
   by_cases eb:b=s.heap.objs.size
   ·subst eb
    rw [zas] at q
    cases q
    exact ⟨by show 2 ≤ sizeLine;decide,[u,v], .cons ru (.cons rv .nil),⟨_,t2,rfl,_,rfl⟩⟩
   ·rw [zah eb] at q
    exact (I1.hok b o q).stay (fun c v _ z=>z) (fun c z=>by rw [zah (zan z hp0)];exact z) fun c xs z=>by rw [zah (zan z hp0)];exact z
  have fp:FpOk X pins H s.heap.objs.size:=I.fpOk (Nat.le_refl _) hp0
  have h0:X.s₀.heap.get? s.heap.objs.size=none:=by
   cases q:X.s₀.heap.get? s.heap.objs.size with
   | none=>rfl
   | some ob=>exact absurd (Nat.lt_of_lt_of_le (Heap.lt_size q) I.sz) (Nat.lt_irrefl _)
  have I2:Inv X pins σ (upd H s.heap.objs.size (.tup [x,y])) { s with heap:=h2 }:=Inv.zkA I1 hp0 h0 fp.2.1 fp.2.2.2.2.1 fp.2.2.2.2.2 hok
  refine ⟨.ref s.heap.objs.size,_,I2,rfl,⟨_,x,y,hp0,rfl,rfl,fun ys hy=>by rw [I.zdX hy hq1];exact hx,fun zs hz=>by rw [I.zdX hz hq2];exact hy⟩,
   ⟨e2,k2 TI _ (by simp only [List.mem_cons,List.not_mem_nil,or_false,not_or];exact ⟨D.TIz,D.TITO,D.TIi1,D.TIi2⟩) s2,⟨u,v,sb.extBut _ _ D.TOz a2⟩,a3.extBut sb.extBut D.i1z,a4.extBut sb.extBut D.i2z⟩,fun c hc=>?_⟩
  have hc2:=(hf c hc).1
  have hlt:c < s.heap.objs.size:=by
   simp only [List.mem_cons,List.not_mem_nil,or_false] at hc
   rcases hc with e | e | e | e | e <;> subst e <;> assumption
  rw [zah (Nat.ne_of_lt hlt)];exact hc2
 done:=by
  intro X hP hw hK hc i pins s σ H E I hf st hg
  subst hP hw hK
  obtain ⟨s1,s2,⟨u0,v0,s3⟩,s4,s5⟩:=st
  obtain ⟨xs,ys,hq1,hq2,hx⟩:=hg
  obtain ⟨its1,rv1,p1,_⟩:=I.tuple hq1
  obtain ⟨its2,rv2,p2,_⟩:=I.tuple hq2
  have l1:=rv1.length
  have l2:=rv2.length
  have hf':∀ c ∈ [z,TO,i1,i2],FpOk X pins H c:=fun c hc=>hf c (by
   simp only [List.mem_cons,List.not_mem_nil,or_false] at hc ⊢
   rcases hc with e | e | e | e <;> simp [e])
  refine zg0 (I.ok.hd hc) D s1 s2 s3 s4 s5 (show s.heap.IsTuple a its1.toArray from p1) (show s.heap.IsTuple b its2.toArray from p2) (by
   rcases hx with q | q
   ·left;simp;omega
   ·right;simp;omega) fun h' hk=>⟨rfl,Inv.zeH (t':=s.toks) I (fun c o hc q=>by
    simp only [List.mem_cons,List.not_mem_nil,or_false,not_or] at hc
    exact hk c o hc.1 hc.2.1 hc.2.2.1 hc.2.2.2 q) hf'⟩
 self:=fun _ _ _ _ _ st h=>wpAny_pyIter_zip st.1 h
section
variable {X:Cx} {W:WX} {pos:Pos}
theorem zkM {elts:List Expr} {x1:Nat} {tp p:Pos} {l l2:Expr} {tl tl2:TE} (hg:Gl X "zip") (hm:X.mg "zip" = none) (hl:PE X l tl) (hl2:PE X l2 tl2) (hs:starEach [l,l2] X.env=(false,eval l X.env) :: starEach [l2] X.env:=by rfl) (hs2:starEach [l2] X.env=[(false,eval l2 X.env)]:=by rfl) :
  PI X (.Tuple elts x1 tp) (.Call (.Name "zip" p) [l,l2] [] pos) (fun σ H R=>tl σ H fun x H1=>tl2 σ H1 fun y H2=>∃ a b,x = .ref a∧y = .ref b∧((∃ xs,SqL X.K H2 a xs)∧(∃ ys,SqL X.K H2 b ys)∧R (Itz X.K a b) H2∨(∃ xs,SqT X.K H2 a xs)∧(∃ ys,SqT X.K H2 b ys)∧R (ItzT X.K a b) H2)):=by
 intro pins s σ H R I h
 refine wpAny_Call_Name_kw (zdn I hg hm boot_zip ?_)
 refine PyProof.Rows.callWith_type1 (thn (zdQ hl (zdQ hl2 zgm hs2) hs pos pins s σ H (fun vs H1=>match vs with
  | [x,y]=>∃ a b,x=V.ref a∧y=V.ref b∧((∃ xs,SqL X.K H1 a xs)∧(∃ ys,SqL X.K H1 b ys)∧R (Itz X.K a b) H1∨(∃ xs,SqT X.K H1 a xs)∧(∃ ys,SqT X.K H1 b ys)∧R (ItzT X.K a b) H1)
  | _=>False) I h) fun us s1 ⟨vs,H1,I1,r1,q1⟩=>?_) hs (by rw [hs2];rfl)
 match vs,q1 with
 | [x,y],q1 =>
 obtain ⟨a,b,e1,e2,q1⟩:=q1
 obtain ⟨u,v,rfl,ru,rv⟩:=vals2 r1
 subst e1 e2
 cases ru
 cases rv
 have hle:∀ c ∈ [s1.heap.objs.size + 4,s1.heap.objs.size + 2,s1.heap.objs.size + 3,s1.heap.objs.size,s1.heap.objs.size + 1],s1.heap.objs.size ≤ c:=fun c hc=>by
  simp only [List.mem_cons,List.not_mem_nil,or_false] at hc
  rcases hc with e | e | e | e | e <;> subst e <;> omega
 rcases q1 with ⟨⟨xs,hq⟩,⟨ys,hq2⟩,q⟩ | ⟨⟨xs,hq⟩,⟨ys,hq2⟩,q⟩
 ·obtain ⟨its,rv1,pl,_⟩:=I1.list hq
  obtain ⟨its2,rv2,pl2,_⟩:=I1.list hq2
  refine call_zip_2 pl.isList pl2.isList fun h' g1 g2 g3 g4 g5 hsz hk=>?_
  refine wpAny_pyIter_zip (s:={ s1 with heap:=h' }) g1 ?_
  have I2:Inv X pins σ H1 { s1 with heap:=h' }:=I1.kept (t':=s1.toks) hk
  refine ⟨_,[s1.heap.objs.size + 4,s1.heap.objs.size + 2,s1.heap.objs.size + 3,s1.heap.objs.size,s1.heap.objs.size + 1],_,_,H1,rfl,I2,zjs a b _ _ _ _ _ (by simp),⟨g1,g2,⟨_,_,g3⟩,g4,g5⟩,fun c hc=>?_,q⟩
  exact I1.fpOk (hle c hc) (I1.hok.fresh (hle c hc))
 ·obtain ⟨its,rv1,pl,_⟩:=I1.tuple hq
  obtain ⟨its2,rv2,pl2,_⟩:=I1.tuple hq2
  have la:a < s1.heap.objs.size:=let ⟨_,q,_⟩:=pl;Heap.lt_size q
  have lb:b < s1.heap.objs.size:=let ⟨_,q,_⟩:=pl2;Heap.lt_size q
  refine zhW (show s1.heap.IsTuple a its.toArray from pl) (show s1.heap.IsTuple b its2.toArray from pl2) fun h' g1 g2 g3 g4 g5 hsz hk=>?_
  refine wpAny_pyIter_zip (s:={ s1 with heap:=h' }) g1 ?_
  have I2:Inv X pins σ H1 { s1 with heap:=h' }:=I1.kept (t':=s1.toks) hk
  refine ⟨_,[s1.heap.objs.size + 4,s1.heap.objs.size + 2,s1.heap.objs.size + 3,s1.heap.objs.size,s1.heap.objs.size + 1],_,_,H1,rfl,I2,zim a b _ _ _ _ _ ?_,⟨g1,g2,⟨_,_,g3⟩,g4,g5⟩,fun c hc=>?_,q⟩
  ·generalize s1.heap.objs.size=n at la lb
   constructor <;> (intro e;simp only [Addr] at *;omega)
  ·exact I1.fpOk (hle c hc) (I1.hok.fresh (hle c hc))
theorem ziW {K:PySem.W.Frag} {G:Hp} {ι:List Addr} {p p2:Addr} {a b:A} {ds es:List A} (ha:∀ z,a ≠ .tup z) (hb:∀ z,b ≠ .tup z) (d:Den K G ι (.ref p) a) (d2:Den K G ι (.ref p2) b):ItV K G ι (Itz K p p2) (zeu a b ds es):=by
 obtain ⟨f1,f2,f3⟩:=zkt (ds:=ds) (es:=es) d d2
 exact ⟨fun G' ι' Ω' H' x w h=>f1 G' ι' Ω' H' x w ⟨za0 h.1 ha,za0 h.2 hb⟩,fun G' ι' Ω' H' x w h=>f2 G' ι' Ω' H' x w ⟨za0 h.1 ha,za0 h.2 hb⟩,fun G' ι' Ω' H' x w h=>f3 G' ι' Ω' H' x w ⟨za0 h.1 ha,za0 h.2 hb⟩⟩
theorem zjr {K:PySem.W.Frag} {G:Hp} {ι:List Addr} {p p2:Addr} {ds es:List A} (d:Den K G ι (.ref p) (.tup ds)) (d2:Den K G ι (.ref p2) (.tup es)):ItV K G ι (ItzT K p p2) (zeu (.tup ds) (.tup es) ds es):=by
 have key:∀ {p:Addr} {ds:List A},Den K G ι (.ref p) (.tup ds)→∀ G' ι' Ω' H',Ext G ι G' ι'→Wd K G' ι' Ω' H'→∃ xs,SqT K H' p xs∧DenL K G' ι' xs ds:=fun d G' ι' Ω' H' e w=>by
  have d:=d.ext e
  simp only [Den] at d
  obtain ⟨q,xs,h1,h2,h3⟩:=d
  cases h1
  exact ⟨xs,SqT.of (w.sub _ _ h2),h3⟩
 refine ⟨fun G' ι' Ω' H' e w h i hi=>?_,fun G' ι' Ω' H' e w h i hi=>?_,fun G' ι' Ω' H' e w h i x H2 y hy hd=>?_⟩
 ·obtain ⟨xs,h2,h3⟩:=key d G' ι' Ω' H' e w
  obtain ⟨ys,h4,h5⟩:=key d2 G' ι' Ω' H' e w
  have hl:i < min ds.length es.length:=by rw [← zdU];exact hi
  have l1:i < xs.length:=by rw [h3.length];omega
  have l2:i < ys.length:=by rw [h5.length];omega
  exact ⟨xs,ys,xs[i],ys[i],h2,h4,List.getElem?_eq_getElem l1,List.getElem?_eq_getElem l2⟩
 ·obtain ⟨xs,h2,h3⟩:=key d G' ι' Ω' H' e w
  obtain ⟨ys,h4,h5⟩:=key d2 G' ι' Ω' H' e w
  have hl:min ds.length es.length ≤ i:=by rw [← zdU];exact hi
  exact ⟨xs,ys,h2,h4,by rw [h3.length,h5.length];omega⟩
 ·obtain ⟨xs,h2,h3⟩:=key d G' ι' Ω' H' e w
  obtain ⟨ys,h4,h5⟩:=key d2 G' ι' Ω' H' e w
  obtain ⟨q,z,z2,e1,e2,e3,e4,e5⟩:=hd
  subst e2 e3
  have hy':(zipA ds es)[i]? = some y:=hy
  rw [zip_get] at hy'
  cases ed:ds[i]? with
  | none=>rw [ed] at hy';cases hy'
  | some d' =>
   cases ee:es[i]? with
   | none=>rw [ed,ee] at hy';cases hy'
   | some d'' =>
    rw [ed,ee] at hy'
    cases hy'
    obtain ⟨z',q1,q2⟩:=h3.get ed
    rw [e4 xs h2] at q1
    cases q1
    obtain ⟨z'',q3,q4⟩:=h5.get ee
    rw [e5 ys h4] at q3
    cases q3
    refine ⟨upd G' q (.tup [z,z2]),Ext.new (w.zcM e1) _,w.new e1 _,?_⟩
    simp only [Den]
    exact ⟨q,[z,z2],rfl,zas, .cons (q2.ext (Ext.new (w.zcM e1) _)) (.cons (q4.ext (Ext.new (w.zcM e1) _)) .nil)⟩
theorem zku {elts:List Expr} {x1:Nat} {tp p:Pos} {l l2:Expr} {fe fe2:Ev→Mo A} (hg:Gl X "zip") (hm:X.mg "zip" = none) (h:VE X W l fe) (h2:VE X W l2 fe2) (hs:starEach [l,l2] X.env=(false,eval l X.env) :: starEach [l2] X.env:=by rfl) (hs2:starEach [l2] X.env=[(false,eval l2 X.env)]:=by rfl) :
  VI X W (.Tuple elts x1 tp) (.Call (.Name "zip" p) [l,l2] [] pos) (znc fe fe2):=by
 obtain ⟨t,p,s⟩:=h
 obtain ⟨t2,p2,s2⟩:=h2
 refine ⟨_,zkM hg hm p p2 hs hs2,fun G ι Ω H σ ρ R w r h=>?_⟩
 refine s G ι Ω H σ ρ _ w r (Post.mb h fun a Ω1 v H1 G1 ι1 x1 w1 d1 h1=>?_)
 refine s2 G1 ι1 Ω1 H1 σ ρ _ w1 (r.ext x1) (Post.mb h1 fun b Ω2 v2 H2 G2 ι2 x2 w2 d2 h3=>?_)
 cases e:zaI Ω2 a with
 | none=>simp only [e] at h3;exact False.elim h3
 | some ds =>
  cases e2:zaI Ω2 b with
  | none=>simp only [e,e2] at h3;exact False.elim h3
  | some es =>
   simp only [e,e2] at h3
   split at h3
   ·rename_i hk
    by_cases ha:∃ z,a = .tup z
    ·obtain ⟨z,rfl⟩:=ha
     have hb:∃ z,b = .tup z:=by
      cases b <;> simp [zi5] at hk ⊢
     obtain ⟨z',rfl⟩:=hb
     simp only [zaI,Option.some.injEq] at e e2
     subst e e2
     have d1':=d1.ext x2
     have d1'':=d1'
     have d2':=d2
     simp only [Den] at d1' d2'
     obtain ⟨q,xs,g1,g2,g3⟩:=d1'
     obtain ⟨q2,ys,g4,g5,g6⟩:=d2'
     subst g1 g4
     exact ⟨q,q2,rfl,rfl, .inr ⟨⟨xs,SqT.of (w2.sub _ _ g2)⟩,⟨ys,SqT.of (w2.sub _ _ g5)⟩,h3 _ H2 G2 ι2 (Ext.refl _ _) w2 (zjr d1'' d2)⟩⟩
    ·have ha:∀ z,a ≠ .tup z:=fun z q=>ha ⟨z,q⟩
     have hb:∀ z,b ≠ .tup z:=fun z q=>by
      subst q
      cases a <;> simp_all [zi5]
     obtain ⟨q,xs,g1,g2,g3⟩:=zaF w2 (d1.ext x2) (za0 e ha)
     obtain ⟨q2,ys,g4,g5,g6⟩:=zaF w2 d2 (za0 e2 hb)
     subst g1 g4
     exact ⟨q,q2,rfl,rfl, .inl ⟨⟨xs,g2⟩,⟨ys,g5⟩,h3 _ H2 G2 ι2 (Ext.refl _ _) w2 (ziW ha hb (d1.ext x2) d2)⟩⟩
   ·exact False.elim h3
end
end V2
namespace M
open PySem V2
noncomputable def zbo:Ev→Mo A :=
 (vLC false 1 [] (vSeq (vVar 0)) (gN 0) yesM (vCl (noX (zau 1 zbq)) (zac (vVar 0) a0)))
noncomputable def zcJ:Ev→Mo A :=
 (vLC false 1 [] (vSeq (vVar 1)) (gN 0) yesM (vBS zeR (cS " ") (zac zbo a0)))
noncomputable def zci:MS :=
 (sSeq (sAsg (vOp (gAdd false) (vLst false (zac (vSl false (vVar 0) sl0 (zjE (cI 3))) a0)) (vOp gIx (vVar 0) (cI 3))) (gN 1))
  (sRet (vBS zeR (cS "\n") (zac zcJ a0))))
noncomputable def zb6:List A→Mo A:=fnF 2 zci
noncomputable def zgv:MS :=
 (sSeq (sAsg (vCl (zau 2 zb9) (zac (vVar 0) (zac (cI 3) a0))) (gN 1))
  (sSeq (sAsg (vOp gIx (vVar 1) (cI 0)) (gN 2))
  (sRet (vTup (zac (vOp gIx (vVar 2) (cI 0)) (zac (vOp gIx (vVar 2) (cI 1)) (zac (vOp gIx (vVar 2) (cI 2)) (zac (vSl true (vVar 1) (zjE (cI 1)) sl0) a0))))))))
noncomputable def zgF:List A→Mo A:=fnF 3 zgv
noncomputable def zbP:Ev→Mo A :=
 (vLC false 1 [0,1] (zem (zac (cI 3) a0)) (gN 0) yesM (vCl (noX (zau 1 zar)) (zac (vCl (noX (zau 2 zaA)) (zac (vCl (noX (zau 2 zaN)) (zac (vVar 1) (zac (vVar 2) a0))) (zac (vVar 0) a0))) a0)))
noncomputable def zbR:Ev→Mo A :=
 (vLC false 1 [6] (zem (zac (cI 3) a0)) (gN 0) yesM (vCl (noX (zau 1 zar)) (zac (vCl (noX (zau 2 zaA)) (zac (vVar 1) (zac (vVar 0) a0))) a0)))
noncomputable def zax:MS :=
 (sSeq (sAsg (vCl (zau 2 zaA) (zac (vCl (zau 2 zaN) (zac (vVar 0) (zac (vVar 5) a0))) (zac (vVar 5) a0))) (gN 6))
   (sExp (vBM zdb (vVar 4) (zac (vCl ziy (zac zbR a0)) a0))))
noncomputable def zbf:MS :=
 (sSeq (sAsg (vCl ziy (zac zbP a0)) (gN 3))
  (sSeq (sAsg (vLst true a0) (gN 4))
  (sSeq (sFor (zi9 (zac (vOp (gAdd false) (vVar 1) (cI 1)) (zac (vCl zkw (zac (vCl gLen (zac (vVar 0) a0)) (zac (vOp (gAdd false) (vVar 1) (vVar 2)) a0))) a0))) (gN 5) zax)
  (sRet (vOp (gAdd false) (vVar 3) (vTup (zac (vFrz 4) a0)))))))
noncomputable def zaU:List A→Mo A:=fnF 7 zbf
noncomputable def zbj (self:List A→Mo A):MS :=
 (sIf (zhe (zbE (vCl (zau 2 self) (zac (vVar 2) (zac (vVar 3) a0)))))
    (sRet (cB false))
    sNx)
noncomputable def zaG (self:List A→Mo A):MS :=
 (sSeq (sIf (zbE (vCl gIs1 (zac (vVar 1) (zac (cT "int") a0))))
   (sRet (vAnd (vCl gIs1 (zac (vVar 0) (zac (cT "int") a0))) (vAnd (vNot (vCl gIs1 (zac (vVar 0) (zac (cT "bool") a0)))) (vOp gEq (vVar 0) (vVar 1)))))
   sNx)
  (sSeq (sIf (vOrT (zbE (vOp gNe (vCl gIs1 (zac (vVar 0) (zac (cT "tuple") a0))) (vCl gIs1 (zac (vVar 1) (zac (cT "tuple") a0))))) (zbE (vOp gNe (vCl gIs1 (zac (vVar 0) (zac (cT "list") a0))) (vCl gIs1 (zac (vVar 1) (zac (cT "list") a0))))))
   (sRet (cB false))
   sNx)
  (sSeq (sIf (zbE (vOp gNe (vCl gLen (zac (vVar 0) a0)) (vCl gLen (zac (vVar 1) a0))))
   (sRet (cB false))
   sNx)
  (sSeq (sFor (znc (vVar 0) (vVar 1)) (zhc 2 (zcK (gN 2) (zcK (gN 3) zix))) (zbj self))
  (sRet (cB true))))))
noncomputable def zai:Nat→List A→Mo A
 | 0=>fnF 4 sNo
 | n + 1=>fnF 4 (zaG (zai n))
noncomputable def zeI:MS :=
 (sRet (vCl (zau 1 zcb) (zac (vOp (gAdd false) (vLst false (zac (vTup (zac (vOp gIx (vVar 0) (cI 0)) (zac (vOp gIx (vVar 0) (cI 1)) (zac (vOp gIx (vVar 0) (cI 2)) a0)))) a0)) (vOp gIx (vVar 0) (cI 3))) a0)))
noncomputable def zeK:List A→Mo A:=fnF 1 zeI
noncomputable def za4:MS :=
 (sSeq (sAsg (vOp (gAdd false) (vSl false (vVar 0) sl0 (zjE (cI 3))) (vTup (zac (vCl (zk3 false) (zac (vOp gIx (vVar 0) (cI 3)) a0)) a0))) (gN 1))
  (sSeq (sAsg (vCl (zau 1 zeK) (zac (vVar 1) a0)) (gN 2))
  (sSeq (sIf (vOrT (zhe (zbE (vCl gIs1 (zac (vVar 2) (zac (cT "str") a0))))) (vOrT (zbE (vOp gNe (vVar 2) (vCl (zau 1 zb6) (zac (vVar 0) a0)))) (zbE (vOp gNe (vVar 1) (vVar 0)))))
   (sRet (cB false))
   sNx)
  (sSeq (sAsg (vCl (zau 1 zgF) (zac (vVar 2) a0)) (gN 3))
  (sSeq (sIf (zhe (zbE (vCl (zau 2 (zai 4)) (zac (vVar 3) (zac (vVar 0) a0)))))
   (sRet (cB false))
   sNx)
  (sSeq (sExp (vBM zdb (vOp gIx (vVar 3) (cI 3)) (zac (vTup (zac (cI 0) (zac (cI 0) (zac (cI 0) a0)))) a0)))
  (sRet (cB true))))))))
noncomputable def zaD:List A→Mo A:=fnF 4 za4
noncomputable def zc4:MS :=
 (sSeq (sAsg (vCl (zau 3 zaU) (zac (vVar 0) (zac (cI 1) (zac (cI 42) a0)))) (gN 1))
  (sSeq (sAsg (vCl (zau 3 zaU) (zac (vVar 0) (zac (cI 0) (zac (vOp (gAdd false) (cI 1) (vOp (gMod) (vCl (zau 2 zaN) (zac (vVar 0) (zac (cI 0) a0))) (cI 4))) a0)))) (gN 2))
  (sRet (vAnd (vCl (zau 1 zaD) (zac (vVar 1) a0)) (vAnd (vCl (zau 1 zaD) (zac (vVar 2) a0)) (vCl (zau 1 zaD) (zac (vVar 1) a0)))))))
noncomputable def zff:List A→Mo A:=fnF 3 zc4
end M
namespace M
open PySem L2 V2
abbrev RwN:=List (List Int)
def enN (l:List Int):A := .tup (l.map A.int)
def FewN (l:List Int):Prop:=∀ x ∈ l,Few x
def zay (l:List Int):List Nat:=J 32 (l.map tL)
def zby (R:RwN):List Nat:=J 10 (R.map zay)
def zcC (k:Nat) (R:RwN):Prop:=∀ l ∈ R,FewN l∧l.length=k
theorem ziJ {l:List Int} (h:FewN l):∀ x ∈ l.map tL,x.length ≤ 123:=fun x hx=>by
 obtain ⟨n,hn,rfl⟩:=List.mem_map.mp hx
 have:=zeT (h n hn)
 omega
theorem zj7 (c m:Nat):∀ xs:List (List Nat),(∀ x ∈ xs,x.length ≤ m)→(J c xs).length ≤ (m + 1) * xs.length:=by
 have key:∀ xs:List (List Nat),(∀ x ∈ xs,x.length ≤ m)→(xs.flatMap fun y=>c :: y).length ≤ (m + 1) * xs.length:=by
  intro xs
  induction xs with
  | nil=>intro _;simp
  | cons x r ih =>
   intro h
   have a:=h x (by simp)
   have b:=ih fun y hy=>h y (by simp [hy])
   simp only [List.flatMap_cons,List.length_append,List.length_cons,Nat.mul_succ]
   omega
 intro xs h
 cases xs with
 | nil=>simp [J]
 | cons x r =>
  have a:=h x (by simp)
  have b:=key r fun y hy=>h y (by simp [hy])
  simp only [J,List.length_append,List.length_cons,Nat.mul_succ]
  omega
theorem zdE (m:Nat):∀ xs:List (List Nat),(∀ x ∈ xs,x.length ≤ m)→sumL (xs.map L2S) ≤ m * xs.length
 | [],_=>by simp [sumL]
 | x :: r,h=>by
  have a:=h x (by simp)
  have b:=zdE m r fun y hy=>h y (by simp [hy])
  simp only [sumL,List.map_cons,List.sum_cons,za5,List.length_cons,Nat.mul_succ] at b ⊢
  omega
theorem zeU {l:List Int} (h:FewN l) (hl:l.length ≤ 8):(zay l).length ≤ 500:=by
 have:=zj7 32 61 (l.map tL) (fun x hx=>by
  obtain ⟨n,hn,rfl⟩:=List.mem_map.mp hx
  exact zeT (h n hn))
 rw [List.length_map] at this
 show (J 32 (l.map tL)).length ≤ 500
 omega
theorem zg5 (l:List Int):10 ∉ zay l:=by
 intro h
 unfold zay at h
 have key:∀ r:List (List Nat),(∀ x ∈ r,10 ∉ x)→10 ∉ J 32 r:=by
  intro r hr hm
  cases r with
  | nil=>simp [J] at hm
  | cons x r =>
   rcases List.mem_append.mp hm with z | z
   ·exact hr x (by simp) z
   ·obtain ⟨y,hy,hm2⟩:=List.mem_flatMap.mp z
    rcases List.mem_cons.mp hm2 with w | w
    ·omega
    ·exact hr y (by simp [hy]) w
 exact key _ (fun x hx hm=>by
  obtain ⟨n,hn,rfl⟩:=List.mem_map.mp hx
  exact (zic _ _ hm).2 rfl) h
theorem zjh (l:List Int):okL (zay l):=J_ok (by decide) _ fun x hx=>by
 obtain ⟨n,_,rfl⟩:=List.mem_map.mp hx
 exact zmZ n
theorem zjw (R:RwN):okL (zby R):=J_ok (by decide) _ fun x hx=>by
 obtain ⟨p,_,rfl⟩:=List.mem_map.mp hx
 exact zjh p
theorem zdu {l:List Int} (h:FewN l) (hl:l.length ≤ 8) (Ω:Sto):zaW [enN l] Ω=some (.ok (.str (L2S (zay l))),Ω):=by
 show trim Ω (outR (zbg [some (enN l)] Ω))=_
 have q:=zcp (n:=1) (js:=[]) (fi:=vSeq (vVar 0)) (g:=gN 0) (e:=(vCl (noX (zau 1 (zam 2))) (zac (vVar 0) a0))) (ρ:=[some (enN l)]) (Ω:=Ω) (Ω0:=Ω) (S:=srcOf (enN l) (l.map A.int)) l A.int (fun n => .str (L2S (tL n))) (fun ρ=>∃ y,ρ=[y]) (fun x y e=>by cases e;rfl)
  (by simp [enN]) (fun ys=>by simp [srcOf,enN]) ⟨none,by simp [lcEv]⟩ rfl (by omega) (fun x hx ρ hP ys=>by
   obtain ⟨y,rfl⟩:=hP
   have m:=zkr (h x hx) (Ω ++ [.lst ys])
   generalize zam 2=F2 at m
   exact ⟨[some (.int x)],⟨_,rfl⟩,by simp,by simp [zau,noX,m]⟩) (fun x _=>by simp only [Cl])
 have em:l.map (fun n=>A.str (L2S (tL n)))=((l.map tL).map L2S).map A.str:=by simp
 rw [em] at q
 have hb:zbO [some (enN l)] Ω=some (.ok (.lst (((l.map tL).map L2S).map A.str)),Ω):=q
 have j:=zgw 32 (l.map tL)
 have e32:Str.ofString " " = ⟨#[32]⟩:=rfl
 rw [← e32] at j
 have sm:sumL ((l.map tL).map L2S) + ((l.map tL).map L2S).length * (Str.ofString " ").length ≤ 16777216:=by
  have a:=zdE 123 (l.map tL) (ziJ h)
  have:(Str.ofString " ").length=1:=by decide
  rw [this]
  simp only [List.length_map] at a ⊢
  omega
 generalize (l.map tL).map L2S=us at hb j sm
 have so:=zb4 us
 have li:zaj Ω (.lst (us.map A.str))=some (us.map A.str):=rfl
 generalize us.map A.str=vs at hb so li
 generalize enN l=x at hb
 have e:zbg [some x] Ω=some (.ret (.str (L2S (zay l))),[some x],Ω):=by
  unfold zbg
  show _=some (Out.ret (.str (L2S (J 32 (l.map tL)))),_,_)
  generalize L2S (J 32 (l.map tL))=T at j
  generalize Str.ofString " " = Z at j sm
  simp [hb,li,so,sm,j]
 rw [e]
 simp only [zaJ]
 exact zaV
theorem zii {p q:List Int} (h:enN p=enN q):p=q:=by
 simp only [enN,A.tup.injEq] at h
 have:∀ {a b:List Int},a.map A.int=b.map A.int→a=b:=by
  intro a
  induction a with
  | nil=>intro b h;cases b with
   | nil=>rfl
   | cons x r=>simp at h
  | cons x r ih=>intro b h;cases b with
   | nil=>simp at h
   | cons y q=>simp only [List.map_cons,List.cons.injEq,A.int.injEq] at h;rw [h.1,ih h.2]
 exact this h
theorem zeg {k:Nat} (hk:k ≤ 8) {R:RwN} (hR:zcC k R):∀ x ∈ R.map zay,x.length ≤ 500:=fun x hx=>by
 obtain ⟨p,hp,rfl⟩:=List.mem_map.mp hx
 exact zeU (hR p hp).1 (by rw [(hR p hp).2];exact hk)
theorem ze1 {k:Nat} (hk:k ≤ 8) {R:RwN} (hR:zcC k R) (hl:R.length ≤ 100):sumL ((R.map zay).map L2S) + ((R.map zay).map L2S).length * (Str.ofString "\n").length ≤ 16777216:=by
 have a:=zdE 500 (R.map zay) (zeg hk hR)
 have:(Str.ofString "\n").length=1:=by decide
 rw [this]
 simp only [List.length_map] at a ⊢
 omega
theorem zft {k:Nat} (hk:k ≤ 8) {R:RwN} (hR:zcC k R) (hl:R.length ≤ 100) (Ω:Sto):zcb [.lst (R.map enN)] Ω=some (.ok (.str (L2S (zby R))),Ω):=by
 show trim Ω (outR (zb8 [some (.lst (R.map enN))] Ω))=_
 have q:=zcp (n:=1) (js:=[]) (fi:=vSeq (vVar 0)) (g:=gN 0) (e:=(vCl (noX (zau 1 zaW)) (zac (vVar 0) a0))) (ρ:=[some (.lst (R.map enN))]) (Ω:=Ω) (Ω0:=Ω) (S:=srcOf (.lst (R.map enN)) (R.map enN)) R enN (fun p => .str (L2S (zay p))) (fun ρ=>∃ y,ρ=[y]) (fun x y e=>by rw [zii e])
  (by simp) (fun ys=>by simp [srcOf]) ⟨none,by simp [lcEv]⟩ rfl (by omega) (fun x hx ρ hP ys=>by
   obtain ⟨y,rfl⟩:=hP
   have m:=zdu (hR x hx).1 (by rw [(hR x hx).2];exact hk) (Ω ++ [.lst ys])
   generalize enN x=w at m
   exact ⟨[some w],⟨_,rfl⟩,by simp,by simp [zau,noX,m]⟩) (fun x _=>by simp only [Cl])
 have em:R.map (fun p=>A.str (L2S (zay p)))=((R.map zay).map L2S).map A.str:=by simp
 rw [em] at q
 have hb:zcF [some (.lst (R.map enN))] Ω=some (.ok (.lst (((R.map zay).map L2S).map A.str)),Ω):=q
 have j:=zgw 10 (R.map zay)
 have e10:Str.ofString "\n" = ⟨#[10]⟩:=rfl
 rw [← e10] at j
 have sm:=ze1 hk hR hl
 generalize (R.map zay).map L2S=us at hb j sm
 have so:=zb4 us
 have li:zaj Ω (.lst (us.map A.str))=some (us.map A.str):=rfl
 generalize us.map A.str=vs at hb so li
 generalize A.lst (R.map enN)=x at hb
 have e:zb8 [some x] Ω=some (.ret (.str (L2S (zby R))),[some x],Ω):=by
  unfold zb8
  show _=some (Out.ret (.str (L2S (J 10 (R.map zay)))),_,_)
  generalize L2S (J 10 (R.map zay))=T at j
  generalize Str.ofString "\n" = Z at j sm
  simp [hb,li,so,sm,j]
 rw [e]
 simp only [zaJ]
 exact zaV
end M
namespace M
open PySem L2 V2
theorem zh7 {l:List Int} (hne:l ≠ []):Txt.split (L2S (zay l)) (Str.ofString " ")=(l.map tL).map L2S :=
 zh1 (c:=32) (by simpa using hne) (fun x hx=>by
  obtain ⟨n,_,rfl⟩:=List.mem_map.mp hx
  exact fun w=>(zic _ _ w).1 rfl)
theorem zhU {R:RwN} (hne:R ≠ []):Txt.split (L2S (zby R)) (Str.ofString "\n")=(R.map zay).map L2S :=
 zh1 (c:=10) (by simpa using hne) (fun x hx=>by
  obtain ⟨p,_,rfl⟩:=List.mem_map.mp hx
  exact zg5 p)
theorem zmX {l:List Int} (h:FewN l) (hl:l.length ≤ 8) (Ω:Sto) (x0 x1 x2 x3 x4:Option A):zcG [x0,x1,x2,x3,x4,some (.lst (((l.map tL).map L2S).map A.str))] Ω=some (.ok (.lst ((l.map fun _=>true).map A.bl)),Ω):=by
 have q:=zcp (n:=1) (js:=[]) (fi:=vSeq (vVar 5)) (g:=gN 0) (e:=(vCl (noX (zau 1 zbJ)) (zac (vVar 0) a0))) (ρ:=[x0,x1,x2,x3,x4,some (.lst (((l.map tL).map L2S).map A.str))]) (Ω:=Ω) (Ω0:=Ω) (S:=srcOf (.lst (((l.map tL).map L2S).map A.str)) (((l.map tL).map L2S).map A.str)) l (fun n => .str (L2S (tL n))) (fun _ => .bl true) (fun ρ=>∃ y,ρ=[y]) (fun x y e=>rfl)
  (by simp) (fun ys=>by simp [srcOf]) ⟨none,by simp [lcEv]⟩ (by simp [srcOf]) (by omega) (fun x hx ρ hP ys=>by
   obtain ⟨y,rfl⟩:=hP
   have m:=zfQ (h x hx) (Ω ++ [.lst ys])
   generalize L2S (tL x)=T at m
   exact ⟨[some (.str T)],⟨_,rfl⟩,by simp,by simp [zau,noX,m]⟩) (fun x _=>by simp only [Cl])
 have em:l.map (fun _=>A.bl true)=(l.map fun _=>true).map A.bl:=by simp
 rw [em] at q
 exact q
theorem zmm {l:List Int} (h:FewN l) (hl:l.length ≤ 8) (Ω:Sto) (x0 x1 x2 x3 x4:Option A):zcI [x0,x1,x2,x3,x4,some (.lst (((l.map tL).map L2S).map A.str))] Ω=some (.ok (.lst (l.map A.int)),Ω):=by
 have ea:(l.attach.map fun x : {x // x ∈ l}=>A.str (L2S (tL x.1)))=((l.map tL).map L2S).map A.str:=by
  have:=List.attach_map_val (l:=l) (f:=fun n=>A.str (L2S (tL n)))
  rw [this];simp
 have eb:(l.attach.map fun x : {x // x ∈ l}=>A.int x.1)=l.map A.int:=List.attach_map_val (l:=l) (f:=A.int)
 rw [← eb]
 exact zcp (α:={x // x ∈ l}) (n:=1) (js:=[]) (fi:=vSeq (vVar 5)) (g:=gN 0) (ρ:=[x0,x1,x2,x3,x4,some (.lst (((l.map tL).map L2S).map A.str))]) (Ω:=Ω) (Ω0:=Ω) (S:=srcOf (.lst (((l.map tL).map L2S).map A.str)) (((l.map tL).map L2S).map A.str)) l.attach (fun n => .str (L2S (tL n.1))) (fun n => .int n.1) (fun ρ=>∃ y,ρ=[y]) (fun x y e=>by
   simp only [A.str.injEq] at e
   rw [zlY (h x.1 x.2) (h y.1 y.2) (zfN e)])
  (by simp) (fun ys=>by simp [srcOf]) ⟨none,by simp [lcEv]⟩ (by rw [ea];rfl) (by rw [List.length_attach];omega) (fun x hx ρ hP ys=>by
   obtain ⟨y,rfl⟩:=hP
   have m:=zik (h x.1 x.2)
   have l:(L2S (tL x.1)).length ≤ 640:=by rw [za5];have:=zeT (h x.1 x.2);omega
   generalize L2S (tL x.1)=T at m l
   exact ⟨[some (.str T)],⟨_,rfl⟩,by simp,by simp [m,l]⟩) (fun x _=>by simp only [Cl])
theorem zjt {l:List Int} (h:FewN l) (hne:l ≠ []) (hl:l.length ≤ 8) (x0 x3 x5:Option A) (f:Nat) (done:List A) (hd:done.length ≤ 100) (Ω:Sto) (hf:Ω[f]? = some (.lst done)) :
  ∃ z5,zbp [x0,some (.int l.length),some (.cel f),x3,some (.str (L2S (zay l))),x5] Ω=some (.nx,[x0,some (.int l.length),some (.cel f),x3,some (.str (L2S (zay l))),z5],Ω.set f (.lst (done ++ [enN l]))):=by
 refine ⟨some (.lst (((l.map tL).map L2S).map A.str)),?_⟩
 have pe:=zh7 hne
 have ll:=zeU h hl
 have z1:(L2S (zay l)).length + 2 ≤ sizeLine:=by rw [za5,sizeLine_eq];omega
 have y1:((Str.ofString " ").length == 0)=false:=by decide
 have q1:=zmX h hl Ω x0 (some (.int l.length)) (some (.cel f)) x3 (some (.str (L2S (zay l))))
 have q2:=zmm h hl Ω x0 (some (.int l.length)) (some (.cel f)) x3 (some (.str (L2S (zay l))))
 have hlen:(((((l.map tL).map L2S).map A.str).length:Nat):Int)=l.length:=by simp
 have cl:zd3 Ω (.cel f)=some (f,done):=zc5 hf
 have il:isL Ω (.cel f):=zgA (zbl hf)
 have hz:done.length < sizeLine:=by rw [sizeLine_eq];omega
 have al:(l.map fun _=>true).all id=true:=by simp
 unfold zbp
 rw [zat (ρ1:=[x0,some (.int l.length),some (.cel f),x3,some (.str (L2S (zay l))),some (.lst (((l.map tL).map L2S).map A.str))]) (Ω':=Ω) (by
  generalize L2S (zay l)=T at pe z1
  generalize Str.ofString " " = Z at pe y1
  generalize (l.map tL).map L2S=us at pe
  generalize (l.length:Int)=n
  simp [pe,z1,y1,mkL])]
 generalize ((l.map tL).map L2S).map A.str=us at q1 q2 hlen
 generalize L2S (zay l)=T at q1 q2
 generalize (l.length:Int)=n at q1 q2 hlen
 have li:zaj Ω (.lst us)=some us:=rfl
 rw [zat (ρ1:=[x0,some (.int n),some (.cel f),x3,some (.str T),some (.lst us)]) (Ω':=Ω) (by
  generalize (l.map fun _=>true)=bs at q1 al
  have bm:=zdV bs
  have li2:zaj Ω (.lst (bs.map A.bl))=some (bs.map A.bl):=rfl
  generalize bs.map A.bl=vs at q1 bm li2
  simp [li,hlen,q1,bm,li2,al])]
 have li3:zaj Ω (.lst (l.map A.int))=some (l.map A.int):=rfl
 show _=some (Out.nx,_,Ω.set f (.lst (done ++ [.tup (l.map A.int)])))
 generalize l.map A.int=vs at q2 li3
 simp [q2,cl,il,hz,li3]
theorem zgq (ok:Sto→Prop) (hok:∀ Ω,ok Ω) (n:Nat) (hn:1 ≤ n) (hn8:n ≤ 8) (x0:Option A) (Ω:Sto):∀ (R:RwN) (k:Nat) (done:List A) (x3 x4 x5:Option A),zcC n R→done.length + R.length ≤ 100 →
  ∃ z3 z4 z5,fFor ok (zhc 2 (zcK (gN 3) (zcK (gN 4) zix))) zbp (za3 k (((R.map zay).map L2S).map A.str)) [x0,some (.int n),some (.cel Ω.length),x3,x4,x5] (Ω ++ [.lst done])=some (.nx,[x0,some (.int n),some (.cel Ω.length),z3,z4,z5],Ω ++ [.lst (done ++ R.map enN)])
 | [],k,done,x3,x4,x5,_,_=>⟨x3,x4,x5,by simp [za3,fFor,hok]⟩
 | p :: R,k,done,x3,x4,x5,hR,hl=>by
  have hl':done.length + (R.length + 1) ≤ 100:=hl
  obtain ⟨hp,hpl⟩:=hR p (by simp)
  obtain ⟨w5,t⟩:=zjt hp (fun z=>by subst z;simp at hpl;omega) (by omega) x0 (some (.int k)) x5 Ω.length done (by omega) (Ω ++ [.lst done]) (by simp)
  rw [hpl] at t
  obtain ⟨z3,z4,z5,q⟩:=zgq ok hok n hn hn8 x0 Ω R (k + 1) (done ++ [enN p]) (some (.int k)) (some (.str (L2S (zay p)))) w5 (fun q hq=>hR q (by simp [hq])) (by simp;omega)
  refine ⟨z3,z4,z5,?_⟩
  have es:(Ω ++ [Cell.lst done]).set Ω.length (.lst (done ++ [enN p]))=Ω ++ [.lst (done ++ [enN p])]:=by simp
  rw [es] at t
  have el:done ++ (p :: R).map enN=(done ++ [enN p]) ++ R.map enN:=by simp
  rw [el,← q]
  simp only [List.map_cons,za3]
  refine zdT (hok _) (ρ0:=[x0,some (.int n),some (.cel Ω.length),some (.int k),some (.str (L2S (zay p))),x5]) (Ω0:=Ω ++ [.lst done]) ?_ t
  generalize L2S (zay p)=T
  simp
theorem zfl {n:Nat} (hn:1 ≤ n) (hn8:n ≤ 8) {R:RwN} (hR:zcC n R) (hl:R.length ≤ 100) (hne:R ≠ []) (Ω:Sto):zb9 [.str (L2S (zby R)), .int n] Ω=some (.ok (.cel Ω.length),Ω ++ [.lst (R.map enN)]):=by
 show trim Ω (outR (zch [some (.str (L2S (zby R))),some (.int n),none,none,none,none] Ω))=_
 have le:=zhU hne
 have tl:=zj7 10 500 (R.map zay) (zeg hn8 hR)
 rw [List.length_map] at tl
 have z1:(L2S (zby R)).length + 2 ≤ sizeLine:=by
  rw [za5,sizeLine_eq]
  show (J 10 (R.map zay)).length + 2 ≤ _
  omega
 have y1:((Str.ofString "\n").length == 0)=false:=by decide
 obtain ⟨z3,z4,z5,q⟩:=zgq (fun Ω'=>zaj Ω' (.lst (((R.map zay).map L2S).map A.str))=some (((R.map zay).map L2S).map A.str)) (fun _=>rfl) n hn hn8 (some (.str (L2S (zby R)))) Ω R 0 [] none none none hR (by simpa using hl)
 have e:zch [some (.str (L2S (zby R))),some (.int n),none,none,none,none] Ω=some (.ret (.cel Ω.length),[some (.str (L2S (zby R))),some (.int n),some (.cel Ω.length),z3,z4,z5],Ω ++ [.lst (R.map enN)]):=by
  unfold zch
  rw [zat (ρ1:=[some (.str (L2S (zby R))),some (.int n),some (.cel Ω.length),none,none,none]) (Ω':=Ω ++ [.lst []]) (by
   generalize L2S (zby R)=T
   simp [mkL])]
  rw [zat (ρ1:=[some (.str (L2S (zby R))),some (.int n),some (.cel Ω.length),z3,z4,z5]) (Ω':=Ω ++ [.lst (R.map enN)]) (by
   rw [forO (S:=enumSrc (.lst (((R.map zay).map L2S).map A.str)) (((R.map zay).map L2S).map A.str)) (Ω':=Ω ++ [.lst []]) (by
    generalize L2S (zby R)=T at le z1
    generalize Str.ofString "\n" = Z at le y1
    generalize (R.map zay).map L2S=us at le
    simp [le,z1,y1,mkL])]
   rw [List.nil_append] at q
   exact q)]
  generalize L2S (zby R)=T
  simp
 rw [e]
 simp only [zaJ,trim]
 rw [if_neg]
 rintro ⟨_,hcl⟩
 simp only [Cl] at hcl
 omega
end M
namespace M
open PySem L2 V2
def pv (a b c:Int) (R:RwN):A := .tup [.int a, .int b, .int c, .lst (R.map enN)]
theorem zgP (c:Bool) (xs ys:List A) (Ω:Sto) (h:xs.length + ys.length ≤ sizeLine):gAdd c (.lst xs) (.lst ys) Ω=mkL c (xs ++ ys) Ω:=by
 have l1:zaj Ω (.lst xs)=some xs:=rfl
 have l2:zaj Ω (.lst ys)=some ys:=rfl
 have h2:¬ sizeLine < xs.length + ys.length:=by omega
 simp [gAdd,gCat,l1,l2,h2]
theorem zh0 {a b c:Int} {R:RwN} (hh:FewN [a,b,c]) (hR:zcC 3 R) (hl:R.length ≤ 99) (Ω:Sto):zeK [pv a b c R] Ω=some (.ok (.str (L2S (zby ([a,b,c] :: R)))),Ω):=by
 have hR2:zcC 3 ([a,b,c] :: R):=fun l hl=>by
  rcases List.mem_cons.mp hl with z | z
  ·subst z;exact ⟨hh,rfl⟩
  ·exact hR l z
 have m:=zft (k:=3) (by decide) hR2 (by simp;omega) Ω
 have ga:=zgP false [enN [a,b,c]] (R.map enN) Ω (by rw [sizeLine_eq];simp;omega)
 rw [List.map_cons] at m
 have s3:(3:Nat) ≤ sizeLine:=by decide
 have s1:(1:Nat) ≤ sizeLine:=by decide
 show trim Ω (outR (zeI [some (pv a b c R)] Ω))=_
 have en:enN [a,b,c] = .tup [.int a, .int b, .int c]:=rfl
 rw [en] at m ga
 unfold pv
 generalize L2S (zby ([a,b,c] :: R))=T at m
 generalize R.map enN=us at m ga
 have a3:atI [A.int a, .int b, .int c, .lst us] 3=some (.lst us):=rfl
 have e:zeI [some (.tup [.int a, .int b, .int c, .lst us])] Ω=some (.ret (.str T),[some (.tup [.int a, .int b, .int c, .lst us])],Ω):=by
  unfold zeI
  generalize hg:gAdd false=g at ga
  simp [zau,a3,ga,s3,s1,mkL,m]
 rw [e]
 simp only [zaJ]
 exact zaV
theorem ziX {a b c:Int} {R:RwN} (hh:FewN [a,b,c]) (hR:zcC 3 R) (hl:R.length ≤ 99) (Ω:Sto):zgF [.str (L2S (zby ([a,b,c] :: R)))] Ω=some (.ok (.tup [.int a, .int b, .int c, .cel (Ω.length + 1)]),Ω ++ [.lst (enN [a,b,c] :: R.map enN), .lst (R.map enN)]):=by
 have hR2:zcC 3 ([a,b,c] :: R):=fun l hl=>by
  rcases List.mem_cons.mp hl with z | z
  ·subst z;exact ⟨hh,rfl⟩
  ·exact hR l z
 have m:=zfl (n:=3) (by decide) (by decide) hR2 (by simp;omega) (by simp) Ω
 rw [List.map_cons] at m
 have en:enN [a,b,c] = .tup [.int a, .int b, .int c]:=rfl
 have li:zaj (Ω ++ [Cell.lst (enN [a,b,c] :: R.map enN)]) (.cel Ω.length)=some (enN [a,b,c] :: R.map enN):=zbl (by simp)
 have si:=ze2 li
 have cu:cutA (enN [a,b,c] :: R.map enN) (some 1) none=R.map enN:=by
  unfold cutA
  rw [show (some (1:Int))=some ((1:Nat):Int) from rfl,HT.zk1]
  simp [HT.sIx]
  exact List.take_of_length_le (by simp)
 rw [en] at m li si cu ⊢
 show trim Ω (outR (zgv [some (.str (L2S (zby ([a,b,c] :: R)))),none,none] Ω))=_
 generalize L2S (zby ([a,b,c] :: R))=T at m
 generalize R.map enN=us at m li si cu
 have s4:(4:Nat) ≤ sizeLine:=by decide
 have e:zgv [some (.str T),none,none] Ω=some (.ret (.tup [.int a, .int b, .int c, .cel (Ω.length + 1)]),[some (.str T),some (.cel Ω.length),some (.tup [.int a, .int b, .int c])],Ω ++ [.lst (.tup [.int a, .int b, .int c] :: us), .lst us]):=by
  unfold zgv
  rw [zat (ρ1:=[some (.str T),some (.cel Ω.length),none]) (Ω':=Ω ++ [.lst (.tup [.int a, .int b, .int c] :: us)]) (by
   have e3:((3:Nat):Int)=3:=rfl
   rw [e3] at m
   simp [zau,m])]
  rw [zat (ρ1:=[some (.str T),some (.cel Ω.length),some (.tup [.int a, .int b, .int c])]) (Ω':=Ω ++ [.lst (.tup [.int a, .int b, .int c] :: us)]) (by simp [si])]
  simp [li,cu,mkL,s4]
 rw [e]
 simp only [zaJ,trim]
 rw [if_neg]
 rintro ⟨_,hcl⟩
 simp [Cl,ClL] at hcl
 omega
theorem zmT {l:List Int} (h:FewN l) (hl:l.length ≤ 8) (Ω:Sto):zbo [some (enN l)] Ω=some (.ok (.lst (((l.map tL).map L2S).map A.str)),Ω):=by
 have em:l.map (fun n=>A.str (L2S (tL n)))=((l.map tL).map L2S).map A.str:=by simp
 rw [← em]
 exact zcp (n:=1) (js:=[]) (fi:=vSeq (vVar 0)) (g:=gN 0) (ρ:=[some (enN l)]) (Ω:=Ω) (Ω0:=Ω) (S:=srcOf (enN l) (l.map A.int)) l A.int (fun n => .str (L2S (tL n))) (fun ρ=>∃ y,ρ=[y]) (fun x y e=>by cases e;rfl)
  (by simp [enN]) (fun ys=>by simp [srcOf,enN]) ⟨none,by simp [lcEv]⟩ rfl (by omega) (fun x hx ρ hP ys=>by
   obtain ⟨y,rfl⟩:=hP
   have m:=zht (h x hx) (Ω ++ [.lst ys])
   exact ⟨[some (.int x)],⟨_,rfl⟩,by simp,by simp [zau,noX,m]⟩) (fun x _=>by simp only [Cl])
theorem zkk {l:List Int} (h:FewN l) (hl:l.length ≤ 8) (Ω:Sto):(vBS zeR (cS " ") (zac zbo a0)) [some (enN l)] Ω=some (.ok (.str (L2S (zay l))),Ω):=by
 have hb:=zmT h hl Ω
 have j:=zgw 32 (l.map tL)
 have e32:Str.ofString " " = ⟨#[32]⟩:=rfl
 rw [← e32] at j
 have sm:sumL ((l.map tL).map L2S) + ((l.map tL).map L2S).length * (Str.ofString " ").length ≤ 16777216:=by
  have a:=zdE 123 (l.map tL) (ziJ h)
  have:(Str.ofString " ").length=1:=by decide
  rw [this]
  simp only [List.length_map] at a ⊢
  omega
 show (vBS zeR (cS (Str.ofString " ")) (zac zbo a0)) [some (enN l)] Ω=some (.ok (.str (L2S (J 32 (l.map tL)))),Ω)
 generalize (l.map tL).map L2S=us at hb j sm
 have so:=zb4 us
 have li:zaj Ω (.lst (us.map A.str))=some (us.map A.str):=rfl
 generalize us.map A.str=vs at hb so li
 generalize enN l=x at hb
 generalize L2S (J 32 (l.map tL))=T at j
 generalize Str.ofString " " = Z at j sm
 simp [hb,li,so,sm,j]
theorem zmW {R:RwN} (hR:zcC 3 R) (hl:R.length ≤ 100) (Ω:Sto) (x0:Option A):zcJ [x0,some (.lst (R.map enN))] Ω=some (.ok (.lst (((R.map zay).map L2S).map A.str)),Ω):=by
 have em:R.map (fun p=>A.str (L2S (zay p)))=((R.map zay).map L2S).map A.str:=by simp
 rw [← em]
 exact zcp (n:=1) (js:=[]) (fi:=vSeq (vVar 1)) (g:=gN 0) (ρ:=[x0,some (.lst (R.map enN))]) (Ω:=Ω) (Ω0:=Ω) (S:=srcOf (.lst (R.map enN)) (R.map enN)) R enN (fun p => .str (L2S (zay p))) (fun ρ=>∃ y,ρ=[y]) (fun x y e=>by rw [zii e])
  (by simp) (fun ys=>by simp [srcOf]) ⟨none,by simp [lcEv]⟩ rfl (by omega) (fun x hx ρ hP ys=>by
   obtain ⟨y,rfl⟩:=hP
   have m:=zkk (hR x hx).1 (by rw [(hR x hx).2];decide) (Ω ++ [.lst ys])
   exact ⟨[some (enN x)],⟨_,rfl⟩,by generalize enN x=w;simp,m⟩) (fun x _=>by simp only [Cl])
theorem zje {a b c:Int} {R:RwN} (hh:FewN [a,b,c]) (hR:zcC 3 R) (hl:R.length ≤ 99) (Ω:Sto):zb6 [pv a b c R] Ω=some (.ok (.str (L2S (zby ([a,b,c] :: R)))),Ω):=by
 have hR2:zcC 3 ([a,b,c] :: R):=fun l hl=>by
  rcases List.mem_cons.mp hl with z | z
  ·subst z;exact ⟨hh,rfl⟩
  ·exact hR l z
 have q:=zmW hR2 (by simp;omega) Ω (some (pv a b c R))
 have j:=zgw 10 (([a,b,c] :: R).map zay)
 have e10:Str.ofString "\n" = ⟨#[10]⟩:=rfl
 rw [← e10] at j
 have sm:=ze1 (k:=3) (by decide) hR2 (by simp;omega)
 have ga:=zgP false [enN [a,b,c]] (R.map enN) Ω (by rw [sizeLine_eq];simp;omega)
 rw [show ([a,b,c] :: R).map enN=enN [a,b,c] :: R.map enN from rfl] at q
 have en:enN [a,b,c] = .tup [.int a, .int b, .int c]:=rfl
 rw [en] at q ga
 show trim Ω (outR (zci [some (pv a b c R),none] Ω))=_
 unfold pv at q ⊢
 show _=some (Rs.ok (A.str (L2S (J 10 (([a,b,c] :: R).map zay)))),Ω)
 generalize (([a,b,c] :: R).map zay).map L2S=us at q j sm
 have so:=zb4 us
 have li:zaj Ω (.lst (us.map A.str))=some (us.map A.str):=rfl
 generalize us.map A.str=vs at q so li
 generalize L2S (J 10 (([a,b,c] :: R).map zay))=T at j
 generalize R.map enN=ws at q ga
 have a3:atI [A.int a, .int b, .int c, .lst ws] 3=some (.lst ws):=rfl
 have s1:(1:Nat) ≤ sizeLine:=by decide
 have cu:cutA [A.int a, .int b, .int c, .lst ws] none (some 3)=[.int a, .int b, .int c]:=rfl
 have c1:HT.sIx 4 4 (some 3)=3:=rfl
 have e:zci [some (.tup [.int a, .int b, .int c, .lst ws]),none] Ω=some (.ret (.str T),[some (.tup [.int a, .int b, .int c, .lst ws]),some (.lst (.tup [.int a, .int b, .int c] :: ws))],Ω):=by
  unfold zci
  rw [zat (ρ1:=[some (.tup [.int a, .int b, .int c, .lst ws]),some (.lst (.tup [.int a, .int b, .int c] :: ws))]) (Ω':=Ω) (by
   generalize hg:gAdd false=g at ga
   simp [a3,cu,c1,s1,ga,mkL])]
  generalize Str.ofString "\n" = Z at j sm
  simp [q,li,so,sm,j]
 rw [e]
 simp only [zaJ]
 exact zaV
end M
namespace M
open PySem L2 V2
def numI (c x:Int):Nat→Int
 | 0=>x
 | i + 1=>numI c x i * 10 + mixI c (2 + (i:Int)) % 10
theorem zg6 (c s:Int) (hc:0 ≤ c) (hc1:c < 8589934592) (n:Nat) (hn:n ≤ 59) (x:Int) (hx:0 ≤ x) (hx1:x < 10) (Ω:Sto) (x3:Option A) :
  ∃ z3,0 ≤ numI c x n∧numI c x n < 10 ^ 60∧fFor (fun _=>True) (gN 3) zaC ((List.range n).map fun (i:Nat)=>A.int (0 + (i:Int))) [some (.int c),some (.int s),some (.int x),x3] Ω=some (.nx,[some (.int c),some (.int s),some (.int (numI c x n)),z3],Ω):=by
 obtain ⟨ρ1,Ω1,q,z3,rfl,rfl,h0,h1⟩:=zeG (ok:=fun _=>True) (g:=gN 3) (b:=zaC)
  (fun i ρ Ω'=>∃ z3,ρ=[some (.int c),some (.int s),some (.int (numI c x i)),z3]∧Ω'=Ω∧0 ≤ numI c x i∧numI c x i < 10 ^ (i + 1)) (fun _ _ _ _=>trivial)
  ((List.range n).map fun (i:Nat)=>A.int (0 + (i:Int))) 0 [some (.int c),some (.int s),some (.int x),x3] Ω ⟨x3,rfl,rfl,hx,by simpa [numI] using hx1⟩
  (by
   rintro i a ρ Ω' ha ⟨z3,rfl,rfl,h0,h1⟩
   have hi:i < n:=by simpa using (List.getElem?_eq_some_iff.mp ha).1
   have ex:a = .int (i:Int):=by
    rw [List.getElem?_map,List.getElem?_range hi] at ha
    simpa using ha.symm
   subst ex
   rw [Nat.zero_add] at h0 h1 ⊢
   have en:numI c x (i + 1)=numI c x i * 10 + mixI c (2 + (i:Int)) % 10:=rfl
   rw [en]
   generalize numI c x i=y at h0 h1
   have m:=zgk c (2 + (i:Int)) Ω' hc hc1 (by omega) (by omega)
   have m0:=mix0 c (2 + (i:Int))
   generalize mixI c (2 + (i:Int))=d at m m0
   have cm:CMul y 10:=zjQ (by decide) (by decide)
   refine ⟨[some (.int c),some (.int s),some (.int y),some (.int i)],Ω',[some (.int c),some (.int s),some (.int (y * 10 + d % 10)),some (.int i)],Ω',by simp, .inl (by simp [zaC,zau,m,cm]),some (.int i),rfl,rfl,by omega,?_⟩
   have:(10:Int) ^ (i + 1 + 1)=10 ^ (i + 1) * 10:=by rw [Int.pow_succ]
   rw [this]
   omega)
 simp only [List.length_map,List.length_range,Nat.zero_add] at h0 h1 q
 refine ⟨z3,h0,?_,q⟩
 have:∀ k,k ≤ 60→(10:Int) ^ k ≤ 10 ^ 60:=by decide
 have:=this (n + 1) (by omega)
 omega
theorem zhl (c:Int) (hc:0 ≤ c) (hc1:c < 8589934592):∃ n,Few n∧∀ Ω,zar [.int c] Ω=some (.ok (.int n),Ω):=by
 have d8:CDiv c 8:=⟨by decide,by decide⟩
 have m:=fun Ω=>zgk c 1 Ω hc hc1 (by decide) (by decide)
 have m0:=mix0 c 1
 generalize mixI c 1=d at m m0
 obtain ⟨n,hn⟩:=Int.eq_ofNat_of_zero_le (show 0 ≤ c / 8 % 60 by omega)
 have qq:=fun Ω=>zg6 c (1 + c / 8 % 60) hc hc1 n (by omega) (1 + d % 9) (by omega) (by omega) Ω none
 obtain ⟨_,y0,y1,_⟩:=qq []
 generalize numI c (1 + d % 9) n=y at qq y0 y1
 have p60:CPow 10 60:=⟨by decide,by decide,by decide⟩
 have s8:(8:Nat) ≤ sizeLine:=by decide
 have front:∀ Ω,∃ z3,∀ f:MS,(sSeq (sAsg (vOp (gAdd false) (cI 1) (vOp (gMod) (vOp (gDiv) (vVar 0) (cI 8)) (cI 60))) (gN 1))
  (sSeq (sAsg (vOp (gAdd false) (cI 1) (vOp (gMod) (vCl (zau 2 zaA) (zac (vVar 0) (zac (cI 1) a0))) (cI 9))) (gN 2))
  (sSeq (sFor (zem (zac (vOp (gSub) (vVar 1) (cI 1)) a0)) (gN 3) zaC) f))) [some (.int c),none,none,none] Ω=f [some (.int c),some (.int (1 + c / 8 % 60)),some (.int y),z3] Ω:=by
  intro Ω
  obtain ⟨z3,_,_,q⟩:=qq Ω
  refine ⟨z3,fun f=>?_⟩
  rw [zat (ρ1:=[some (.int c),some (.int (1 + c / 8 % 60)),none,none]) (Ω':=Ω) (by simp [d8])]
  rw [zat (ρ1:=[some (.int c),some (.int (1 + c / 8 % 60)),some (.int (1 + d % 9)),none]) (Ω':=Ω) (by simp [zau,m])]
  rw [zat (ρ1:=[some (.int c),some (.int (1 + c / 8 % 60)),some (.int y),z3]) (Ω':=Ω) (by
   rw [forO (S:=zcj 0 n) (Ω':=Ω) (rngO (j:=(n:Int)) (by simp;omega) (by unfold za8;omega))]
   exact q)]
 have fin:∀ n:Int,-(10 ^ 60) < n→n < 10 ^ 60→(∀ Ω,∃ ρ,zak [some (.int c),none,none,none] Ω=some (.ret (.int n),ρ,Ω))→∃ n,Few n∧∀ Ω,zar [.int c] Ω=some (.ok (.int n),Ω):=fun n a b e=>by
  refine ⟨n,zl2 a b,fun Ω=>?_⟩
  obtain ⟨ρ,e⟩:=e Ω
  show trim Ω (outR (zak [some (.int c),none,none,none] Ω))=_
  rw [e]
  simp only [zaJ]
  exact zaV
 have t60:(1:Int) < 10 ^ 60:=by decide
 have t60':(1000:Int) < 10 ^ 60:=by decide
 have hm:c % 8=0∨c % 8=1∨c % 8=2∨c % 8=3∨c % 8=4∨c % 8=5∨c % 8=6∨c % 8=7:=by omega
 rcases hm with e | e | e | e | e | e | e | e
 ·exact fin 0 (by decide) (by decide) (by intro Ω;obtain ⟨z3,fr⟩:=front Ω;refine ⟨[some (.int c),some (.int (1 + c / 8 % 60)),some (.int y),z3],?_⟩;unfold zak;rw [fr];simp [d8,p60,s8,e,zfq,zfo,zfB,zfz])
 ·exact fin 1 (by decide) (by decide) (by intro Ω;obtain ⟨z3,fr⟩:=front Ω;refine ⟨[some (.int c),some (.int (1 + c / 8 % 60)),some (.int y),z3],?_⟩;unfold zak;rw [fr];simp [d8,p60,s8,e,zfq,zfo,zfB,zfz])
 ·exact fin (c / 8 % 100) (by omega) (by omega) (by intro Ω;obtain ⟨z3,fr⟩:=front Ω;refine ⟨[some (.int c),some (.int (1 + c / 8 % 60)),some (.int y),z3],?_⟩;unfold zak;rw [fr];simp [d8,p60,s8,e,zfq,zfo,zfB,zfz])
 ·exact fin (0 - 1 - c / 8 % 100) (by omega) (by omega) (by intro Ω;obtain ⟨z3,fr⟩:=front Ω;refine ⟨[some (.int c),some (.int (1 + c / 8 % 60)),some (.int y),z3],?_⟩;unfold zak;rw [fr];simp [d8,p60,s8,e,zfq,zfo,zfB,zfz])
 ·exact fin y (by omega) y1 (by intro Ω;obtain ⟨z3,fr⟩:=front Ω;refine ⟨[some (.int c),some (.int (1 + c / 8 % 60)),some (.int y),z3],?_⟩;unfold zak;rw [fr];simp [d8,p60,s8,e,zfq,zfo,zfB,zfz])
 ·exact fin (0 - y) (by omega) (by omega) (by intro Ω;obtain ⟨z3,fr⟩:=front Ω;refine ⟨[some (.int c),some (.int (1 + c / 8 % 60)),some (.int y),z3],?_⟩;unfold zak;rw [fr];simp [d8,p60,s8,e,zfq,zfo,zfB,zfz])
 ·exact fin (10 ^ 60 - 1) (by decide) (by decide) (by intro Ω;obtain ⟨z3,fr⟩:=front Ω;refine ⟨[some (.int c),some (.int (1 + c / 8 % 60)),some (.int y),z3],?_⟩;unfold zak;rw [fr];simp [d8,p60,s8,e,zfq,zfo,zfB,zfz])
 ·exact fin (1 - 10 ^ 60) (by decide) (by decide) (by intro Ω;obtain ⟨z3,fr⟩:=front Ω;refine ⟨[some (.int c),some (.int (1 + c / 8 % 60)),some (.int y),z3],?_⟩;unfold zak;rw [fr];simp [d8,p60,s8,e,zfq,zfo,zfB,zfz])
theorem zgO (f:Nat→Int) (h0:∀ i,0 ≤ f i) (h1:∀ i,f i < 2147483587):∃ g:Nat→Int,∀ i,Few (g i)∧∀ Ω,zar [.int (f i)] Ω=some (.ok (.int (g i)),Ω):=by
 have:∀ i,∃ n,Few n∧∀ Ω,zar [.int (f i)] Ω=some (.ok (.int n),Ω):=fun i=>zhl (f i) (h0 i) (by have:=h1 i;omega)
 exact ⟨fun i=>Classical.choose (this i),fun i=>Classical.choose_spec (this i)⟩
theorem zjg (x:Int) (h0:0 ≤ x) (h1:x < 8589934592):∃ l:List Int,FewN l∧l.length=3∧∀ (Ω:Sto) (x0 x1 x2 x3 x4 x5:Option A),zbR [x0,x1,x2,x3,x4,x5,some (.int x)] Ω=some (.ok (.lst (l.map A.int)),Ω):=by
 obtain ⟨g,hg⟩:=zgO (fun i=>mixI x (i:Int)) (fun i=>mix0 _ _) (fun i=>mix1 _ _)
 refine ⟨(List.range 3).map g,fun n hn=>?_,by simp,fun Ω x0 x1 x2 x3 x4 x5=>?_⟩
 ·obtain ⟨i,_,rfl⟩:=List.mem_map.mp hn
  exact (hg i).1
 ·rw [List.map_map]
  refine zcp (n:=1) (js:=[6]) (fi:=zem (zac (cI 3) a0)) (ρ:=[x0,x1,x2,x3,x4,x5,some (.int x)]) (Ω:=Ω) (Ω0:=Ω) (S:=zcj 0 3) (List.range 3) (fun (i:Nat)=>A.int (0 + (i:Int))) (A.int ∘ g) (fun ρ=>∃ y,ρ=[y,some (.int x)]) (fun i j e=>?_) (rngO (j:=3) (by simp) (by unfold za8;omega)) (fun ys=>trivial) ⟨none,by simp [lcEv]⟩ rfl (by simp) (fun i hi ρ hP ys=>?_) (fun i _=>by simp only [Function.comp,Cl])
  ·simp only [A.int.injEq] at e
   have:i=j:=by omega
   subst this;rfl
  ·obtain ⟨y,rfl⟩:=hP
   have hi3:i < 3:=by simpa using hi
   have m:=zgk x (i:Int) (Ω ++ [.lst ys]) h0 h1 (by omega) (by omega)
   have q:=(hg i).2 (Ω ++ [.lst ys])
   have ez:(0:Int) + (i:Int)=(i:Int):=by omega
   rw [ez]
   refine ⟨[some (.int (i:Int)),some (.int x)],⟨_,rfl⟩,by simp,?_⟩
   generalize mixI x (i:Int)=d at m q
   show _=some (Rs.ok (A.int (g i)),_)
   generalize g i=w at q
   simp [zau,noX,m,q]
theorem zjC (ns:List Int) (st:Nat) (hst:st ≤ 100):∃ l:List Int,FewN l∧l.length=3∧∀ (Ω:Sto) (x2 x3 x4 x5 x6:Option A),zbP [some (.scr ns),some (.int st),x2,x3,x4,x5,x6] Ω=some (.ok (.lst (l.map A.int)),Ω):=by
 have c:=fun Ω=>zhP ns st Ω (by omega) (by omega)
 have c0:=zkc ns st
 have c1:=zm4 ns st
 generalize ze8 ns st=x at c c0 c1
 obtain ⟨g,hg⟩:=zgO (fun i=>mixI x (i:Int)) (fun i=>mix0 _ _) (fun i=>mix1 _ _)
 refine ⟨(List.range 3).map g,fun n hn=>?_,by simp,fun Ω x2 x3 x4 x5 x6=>?_⟩
 ·obtain ⟨i,_,rfl⟩:=List.mem_map.mp hn
  exact (hg i).1
 ·rw [List.map_map]
  refine zcp (n:=1) (js:=[0,1]) (fi:=zem (zac (cI 3) a0)) (ρ:=[some (.scr ns),some (.int st),x2,x3,x4,x5,x6]) (Ω:=Ω) (Ω0:=Ω) (S:=zcj 0 3) (List.range 3) (fun (i:Nat)=>A.int (0 + (i:Int))) (A.int ∘ g) (fun ρ=>∃ y,ρ=[y,some (.scr ns),some (.int st)]) (fun i j e=>?_) (rngO (j:=3) (by simp) (by unfold za8;omega)) (fun ys=>trivial) ⟨none,by simp [lcEv]⟩ rfl (by simp) (fun i hi ρ hP ys=>?_) (fun i _=>by simp only [Function.comp,Cl])
  ·simp only [A.int.injEq] at e
   have:i=j:=by omega
   subst this;rfl
  ·obtain ⟨y,rfl⟩:=hP
   have hi3:i < 3:=by simpa using hi
   have m:=zgk x (i:Int) (Ω ++ [.lst ys]) c0 (by omega) (by omega) (by omega)
   have q:=(hg i).2 (Ω ++ [.lst ys])
   have cc:=c (Ω ++ [.lst ys])
   have ez:(0:Int) + (i:Int)=(i:Int):=by omega
   rw [ez]
   refine ⟨[some (.int (i:Int)),some (.scr ns),some (.int st)],⟨_,rfl⟩,by simp,?_⟩
   generalize mixI x (i:Int)=d at m q
   show _=some (Rs.ok (A.int (g i)),_)
   generalize g i=w at q
   simp [zau,noX,cc,m,q]
end M
namespace M
open PySem L2 V2
theorem zg2 (ns:List Int) (k:Nat) (hk:k ≤ 200) (x1 x2 x3 x6:Option A) (f:Nat) (done:List A) (hd:done.length ≤ 100) (Ω:Sto) (hf:Ω[f]? = some (.lst done)) :
  ∃ l z6,(FewN l∧l.length=3)∧zax [some (.scr ns),x1,x2,x3,some (.cel f),some (.int k),x6] Ω=some (.nx,[some (.scr ns),x1,x2,x3,some (.cel f),some (.int k),z6],Ω.set f (.lst (done ++ [enN l]))):=by
 have c:=zhP ns k Ω (by omega) (by omega)
 have c0:=zkc ns k
 have c1:=zm4 ns k
 generalize ze8 ns k=x at c c0 c1
 have m:=zgk x k Ω c0 (by omega) (by omega) (by omega)
 have m0:=mix0 x k
 have m1:=mix1 x k
 generalize mixI x k=y at m m0 m1
 obtain ⟨l,hl,h3,q⟩:=zjg y m0 (by omega)
 have q:=q Ω (some (.scr ns)) x1 x2 x3 (some (.cel f)) (some (.int k))
 have cl:zd3 Ω (.cel f)=some (f,done):=zc5 hf
 have il:isL Ω (.cel f):=zgA (zbl hf)
 have hz:done.length < sizeLine:=by rw [sizeLine_eq];omega
 have li:zaj Ω (.lst (l.map A.int))=some (l.map A.int):=rfl
 refine ⟨l,some (.int y),⟨hl,h3⟩,?_⟩
 show _=some (Out.nx,_,Ω.set f (.lst (done ++ [.tup (l.map A.int)])))
 unfold zax
 rw [zat (ρ1:=[some (.scr ns),x1,x2,x3,some (.cel f),some (.int k),some (.int y)]) (Ω':=Ω) (by simp [zau,c,m])]
 generalize l.map A.int=us at q li
 simp [q,cl,il,hz,li]
def I76 (ns:List Int) (x1 x2 x3:Option A) (Ω:Sto) (i:Nat) (ρ:Ev) (Ω':Sto):Prop:=∃ (R:RwN) (x5 x6:Option A),ρ=[some (.scr ns),x1,x2,x3,some (.cel Ω.length),x5,x6]∧Ω'=Ω ++ [.lst (R.map enN)]∧zcC 3 R∧R.length=i
theorem zhq (ns:List Int) (x1 x2 x3:Option A) (Ω:Sto) (k:Nat) (hk:k ≤ 200) (i:Nat) (hi:i ≤ 60) (a:A) (ex:a = .int (k:Int)) (ρ:Ev) (Ω':Sto) (h:I76 ns x1 x2 x3 Ω i ρ Ω') :
  ∃ ρ0 Ω0 ρ1 Ω1,gN 5 a ρ Ω'=some (.nx,ρ0,Ω0)∧(zax ρ0 Ω0=some (.nx,ρ1,Ω1)∨zax ρ0 Ω0=some (.ct,ρ1,Ω1))∧I76 ns x1 x2 x3 Ω (i + 1) ρ1 Ω1:=by
 obtain ⟨R,x5,x6,rfl,rfl,hR,hl⟩:=h
 subst ex
 obtain ⟨p,z6,hp,t⟩:=zg2 ns k hk x1 x2 x3 x6 Ω.length (R.map enN) (by rw [List.length_map];omega) (Ω ++ [.lst (R.map enN)]) (by simp)
 have es:(Ω ++ [Cell.lst (R.map enN)]).set Ω.length (.lst (R.map enN ++ [enN p]))=Ω ++ [.lst ((R ++ [p]).map enN)]:=by simp
 rw [es] at t
 have fr:zcC 3 (R ++ [p]):=fun q hq=>by
  rcases List.mem_append.mp hq with z | z
  ·exact hR q z
  ·rw [List.mem_singleton] at z;subst z;exact hp
 have h1:gN 5 (.int (k:Int)) [some (.scr ns),x1,x2,x3,some (.cel Ω.length),x5,x6] (Ω ++ [.lst (R.map enN)])=some (.nx,[some (.scr ns),x1,x2,x3,some (.cel Ω.length),some (.int (k:Int)),x6],Ω ++ [.lst (R.map enN)]):=by
  generalize R.map enN=us
  simp
 have hL:(R ++ [p]).length=i + 1:=by rw [List.length_append,hl];rfl
 have h2:I76 ns x1 x2 x3 Ω (i + 1) [some (.scr ns),x1,x2,x3,some (.cel Ω.length),some (.int (k:Int)),z6] (Ω ++ [.lst ((R ++ [p]).map enN)]):=⟨R ++ [p],some (.int (k:Int)),z6,rfl,rfl,fr,hL⟩
 exact ⟨_,_,_,_,h1,Or.inl t,h2⟩
theorem zeW (ns:List Int) (hns:ns.length ≤ 63) (st mo:Nat) (hst:st ≤ 1) (hmo:mo ≤ 42) (Ω:Sto):∃ (a b c:Int) (R:RwN),FewN [a,b,c]∧zcC 3 R∧R.length ≤ 60∧zaU [.scr ns, .int st, .int mo] Ω=some (.ok (pv a b c R),Ω):=by
 obtain ⟨l,hl,h3,q1⟩:=zjC ns st (by omega)
 obtain ⟨a,b,c,rfl⟩ : ∃ a b c,l=[a,b,c]:=by
  match l,h3 with
  | [a,b,c],_=>exact ⟨a,b,c,rfl⟩
 obtain ⟨m,hm⟩:=Int.eq_ofNat_of_zero_le (show 0 ≤ min (ns.length:Int) ((st:Int) + mo) by omega)
 obtain ⟨ρ1,Ω1,q,R,x5,x6,rfl,rfl,hR,hlen⟩:=zeG (ok:=fun _=>True) (g:=gN 5) (b:=zax)
  (I76 ns (some (.int st)) (some (.int mo)) (some (.tup [.int a, .int b, .int c])) Ω) (fun _ _ _ _=>trivial)
  ((List.range (m - (st + 1))).map fun (i:Nat)=>A.int (((st:Int) + 1) + (i:Int))) 0 [some (.scr ns),some (.int st),some (.int mo),some (.tup [.int a, .int b, .int c]),some (.cel Ω.length),none,none] (Ω ++ [.lst []]) ⟨[],none,none,rfl,rfl,fun _ h=>by simp at h,rfl⟩
  (fun i a' ρ Ω' ha h=>by
   have hi:i < m - (st + 1):=by simpa using (List.getElem?_eq_some_iff.mp ha).1
   have ex:a' = .int ((st + 1 + i:Nat):Int):=by
    rw [List.getElem?_map,List.getElem?_range hi] at ha
    simpa using ha.symm
   rw [Nat.zero_add] at h ⊢
   exact zhq ns _ _ _ Ω (st + 1 + i) (by omega) i (by omega) a' ex ρ Ω' h)
 simp only [List.length_map,List.length_range,Nat.zero_add] at hlen
 refine ⟨a,b,c,R,hl,hR,by omega,?_⟩
 show trim Ω (outR (zbf [some (.scr ns),some (.int st),some (.int mo),none,none,none,none] Ω))=_
 have q1:=q1 Ω (some (.int mo)) none none none none
 have s4:(4:Nat) ≤ sizeLine:=by decide
 have s1:(1:Nat) ≤ sizeLine:=by decide
 have li1:zaj Ω (.lst [.int a, .int b, .int c])=some [.int a, .int b, .int c]:=rfl
 unfold pv
 have e:zbf [some (.scr ns),some (.int st),some (.int mo),none,none,none,none] Ω=some (.ret (.tup [.int a, .int b, .int c, .lst (R.map enN)]),[some (.scr ns),some (.int st),some (.int mo),some (.tup [.int a, .int b, .int c]),some (.cel Ω.length),x5,x6],Ω ++ [.dead]):=by
  unfold zbf
  rw [zat (ρ1:=[some (.scr ns),some (.int st),some (.int mo),some (.tup [.int a, .int b, .int c]),none,none,none]) (Ω':=Ω) (by
   simp only [List.map_cons,List.map_nil] at q1
   simp [q1,li1])]
  rw [zat (ρ1:=[some (.scr ns),some (.int st),some (.int mo),some (.tup [.int a, .int b, .int c]),some (.cel Ω.length),none,none]) (Ω':=Ω ++ [.lst []]) (by simp [mkL])]
  rw [zat (ρ1:=[some (.scr ns),some (.int st),some (.int mo),some (.tup [.int a, .int b, .int c]),some (.cel Ω.length),x5,x6]) (Ω':=Ω ++ [.lst (R.map enN)]) (by
   have en:((m:Int) - ((st:Int) + 1)).toNat=m - (st + 1):=by omega
   rw [forO (S:=zcj ((st:Int) + 1) (m - (st + 1))) (Ω':=Ω ++ [.lst []]) (by
    rw [← en]
    exact znR (i:=(st:Int) + 1) (j:=(m:Int)) (by simp [hm]) (by unfold za8;omega))]
   exact q)]
  generalize R.map enN=us
  simp [s4,s1]
 rw [e]
 simp only [zaJ]
 exact zeB (by
  simp only [Cl,ClL,true_and,and_true]
  exact zeN fun a ha=>by
   obtain ⟨p,_,rfl⟩:=List.mem_map.mp ha
   simp only [enN,Cl]
   exact zeN fun a ha=>by obtain ⟨i,_,rfl⟩:=List.mem_map.mp ha;simp only [Cl])
end M
namespace M
open PySem L2 V2
theorem same_int (k:Nat) (x:Int) (Ω:Sto):zai (k + 1) [.int x, .int x] Ω=some (.ok (.bl true),Ω):=by
 show trim Ω (outR (zaG (zai k) [some (.int x),some (.int x),none,none] Ω))=_
 have e:zaG (zai k) [some (.int x),some (.int x),none,none] Ω=some (.ret (.bl true),[some (.int x),some (.int x),none,none],Ω):=by
  unfold zaG
  rw [ziC (a := .bl true) (ρ1:=[some (.int x),some (.int x),none,none]) (Ω':=Ω) (by simp [tyA])]
 rw [e]
 simp only [zaJ]
 exact zaV
theorem zfj (self:List A→Mo A) (ok:Sto→Prop) (Ω:Sto) (hok:ok Ω) (x0 x1:Option A):∀ (xs ys:List A) (x2 x3:Option A),xs.length=ys.length→(∀ p ∈ xs.zip ys,self [p.1,p.2] Ω=some (.ok (.bl true),Ω)) →
  ∃ z2 z3,fFor ok (zhc 2 (zcK (gN 2) (zcK (gN 3) zix))) (zbj self) (zipA xs ys) [x0,x1,x2,x3] Ω=some (.nx,[x0,x1,z2,z3],Ω)
 | [],[],x2,x3,_,_=>⟨x2,x3,by simp [zipA,fFor,hok]⟩
 | x :: xs,y :: ys,x2,x3,h,hs=>by
  obtain ⟨z2,z3,q⟩:=zfj self ok Ω hok x0 x1 xs ys (some x) (some y) (by simpa using h) (fun p hp=>hs p (by simp [hp]))
  have s0:=hs (x,y) (by simp)
  refine ⟨z2,z3,?_⟩
  rw [← q]
  simp only [zipA]
  exact zdT hok (ρ0:=[x0,x1,some x,some y]) (Ω0:=Ω) (by simp) (by simp [zbj,zau,s0])
theorem zey (k:Nat) (fv dv:A) (xs ys:List A) (T:String) (hT:T = "tuple"∨T = "list") (Ω:Sto) (h1:zaI Ω fv=some xs) (h2:zaI Ω dv=some ys) (t1:tyA Ω fv=some T) (t2:tyA Ω dv=some T) (hl:xs.length=ys.length) (sk:zi5 fv dv=true)
  (hs:∀ p ∈ xs.zip ys,zai k [p.1,p.2] Ω=some (.ok (.bl true),Ω)):zai (k + 1) [fv,dv] Ω=some (.ok (.bl true),Ω):=by
 show trim Ω (outR (zaG (zai k) [some fv,some dv,none,none] Ω))=_
 generalize zai k=self at hs
 obtain ⟨z2,z3,q⟩:=zfj self (fun Ω'=>zaI Ω' fv=some xs∧zaI Ω' dv=some ys) Ω ⟨h1,h2⟩ (some fv) (some dv) xs ys none none hl hs
 have hl2:(xs.length:Int)=ys.length:=by omega
 have e:zaG self [some fv,some dv,none,none] Ω=some (.ret (.bl true),[some fv,some dv,z2,z3],Ω):=by
  unfold zaG
  rw [zat (ρ1:=[some fv,some dv,none,none]) (Ω':=Ω) (by rcases hT with e | e <;> subst e <;> simp [t2])]
  rw [zat (ρ1:=[some fv,some dv,none,none]) (Ω':=Ω) (by
   have g1:=fun b:Bool=>zek (a := .bl b) (Ω:=Ω) rfl
   rcases hT with e | e <;> subst e <;> simp [t1,t2,g1])]
  rw [zat (ρ1:=[some fv,some dv,none,none]) (Ω':=Ω) (by simp [h1,h2,hl2])]
  rw [zat (ρ1:=[some fv,some dv,z2,z3]) (Ω':=Ω) (by
   rw [forO (S:=zeu fv dv xs ys) (Ω':=Ω) (by simp [h1,h2,sk])]
   exact q)]
  simp
 rw [e]
 simp only [zaJ]
 exact zaV
end M
namespace M
open PySem L2 V2
theorem zcv:∀ {l:List A} {p:A × A},p ∈ l.zip l→p.1=p.2∧p.1 ∈ l
 | [],p,h=>by simp at h
 | x :: l,p,h=>by
  simp only [List.zip_cons_cons,List.mem_cons] at h
  rcases h with e | h
  ·subst e;simp
  ·have:=zcv h
   exact ⟨this.1,by simp [this.2]⟩
theorem zjn (l:List Int) (Ω:Sto):zai 2 [enN l,enN l] Ω=some (.ok (.bl true),Ω) :=
 zey 1 (enN l) (enN l) (l.map A.int) (l.map A.int) "tuple" (.inl rfl) Ω rfl rfl rfl rfl rfl rfl (fun p hp=>by
  obtain ⟨e,m⟩:=zcv hp
  obtain ⟨x,_,ex⟩:=List.mem_map.mp m
  rw [← e,← ex]
  exact same_int 0 x Ω)
theorem ziA (R:RwN) (k:Nat) (Ω:Sto) (h:Ω[k]? = some (.lst (R.map enN))):zai 3 [.cel k, .lst (R.map enN)] Ω=some (.ok (.bl true),Ω) :=
 zey 2 (.cel k) (.lst (R.map enN)) (R.map enN) (R.map enN) "list" (.inr rfl) Ω (ze2 (zbl h)) rfl (zk6 h) rfl rfl rfl (fun p hp=>by
  obtain ⟨e,m⟩:=zcv hp
  obtain ⟨x,_,ex⟩:=List.mem_map.mp m
  rw [← e,← ex]
  exact zjn x Ω)
theorem zgZ (a b c:Int) (R:RwN) (k:Nat) (Ω:Sto) (h:Ω[k]? = some (.lst (R.map enN))):zai 4 [.tup [.int a, .int b, .int c, .cel k],pv a b c R] Ω=some (.ok (.bl true),Ω) :=
 zey 3 _ _ [.int a, .int b, .int c, .cel k] [.int a, .int b, .int c, .lst (R.map enN)] "tuple" (.inl rfl) Ω rfl rfl rfl rfl rfl rfl (fun p hp=>by
  simp only [List.zip_cons_cons,List.zip_nil_right,List.mem_cons,List.not_mem_nil,or_false] at hp
  rcases hp with e | e | e | e <;> subst e
  ·exact same_int 2 a Ω
  ·exact same_int 2 b Ω
  ·exact same_int 2 c Ω
  ·exact ziA R k Ω h)
theorem zmr (a b c:Int) (R:RwN):pur 8 (pv a b c R)=true:=by
 have h:(R.map enN).all (pur 6)=true:=by
  rw [List.all_eq_true]
  intro x hx
  obtain ⟨p,_,rfl⟩:=List.mem_map.mp hx
  show (p.map A.int).all (pur 5)=true
  rw [List.all_eq_true]
  intro y hy
  obtain ⟨i,_,rfl⟩:=List.mem_map.mp hy
  rfl
 show ([A.int a, .int b, .int c, .lst (R.map enN)]).all (pur 7)=true
 have h2:pur 7 (.lst (R.map enN))=true:=h
 simp [h2]
theorem ze5 {a b c:Int} {R:RwN} (hh:FewN [a,b,c]) (hR:zcC 3 R) (hl:R.length ≤ 99) (Ω:Sto):zaD [pv a b c R] Ω=some (.ok (.bl true),Ω):=by
 have sh:=zh0 hh hR hl Ω
 have tx:=zje hh hR hl Ω
 have rd:=ziX hh hR hl Ω
 have g1:(Ω ++ [Cell.lst (enN [a,b,c] :: R.map enN), .lst (R.map enN)])[Ω.length + 1]? = some (.lst (R.map enN)):=by
  rw [List.getElem?_append_right (by omega)];simp
 have sm:=zgZ a b c R (Ω.length + 1) (Ω ++ [.lst (enN [a,b,c] :: R.map enN), .lst (R.map enN)]) g1
 have n1:gNe (.str (L2S (zby ([a,b,c] :: R)))) (.str (L2S (zby ([a,b,c] :: R)))) Ω=some (.ok (.bl false),Ω):=zek (zf5 (zjw _))
 have n2:gNe (pv a b c R) (pv a b c R) Ω=some (.ok (.bl false),Ω):=zek (zmr a b c R)
 have cl:zd3 (Ω ++ [Cell.lst (enN [a,b,c] :: R.map enN), .lst (R.map enN)]) (.cel (Ω.length + 1))=some (Ω.length + 1,R.map enN):=zc5 g1
 have il:isL (Ω ++ [Cell.lst (enN [a,b,c] :: R.map enN), .lst (R.map enN)]) (.cel (Ω.length + 1)):=zgA (zbl g1)
 have hz:(R.map enN).length < sizeLine:=by rw [sizeLine_eq];simp;omega
 have s4:(4:Nat) ≤ sizeLine:=by decide
 have s3:(3:Nat) ≤ sizeLine:=by decide
 have s1:(1:Nat) ≤ sizeLine:=by decide
 have est:(Ω ++ [Cell.lst (enN [a,b,c] :: R.map enN), .lst (R.map enN)]).set (Ω.length + 1) (.lst (R.map enN ++ [.tup [.int 0, .int 0, .int 0]]))=Ω ++ [.lst (enN [a,b,c] :: R.map enN), .lst (R.map enN ++ [.tup [.int 0, .int 0, .int 0]])]:=by
  rw [List.set_append_right _ _ (by omega)];simp
 show trim Ω (outR (za4 [some (pv a b c R),none,none,none] Ω))=_
 unfold pv at sh tx sm n2 ⊢
 generalize L2S (zby ([a,b,c] :: R))=T at sh tx rd n1
 generalize R.map enN=us at sh tx rd g1 sm n2 cl il hz est
 generalize enN [a,b,c]=w at rd g1 sm cl il est
 have a3:atI [A.int a, .int b, .int c, .lst us] 3=some (.lst us):=rfl
 have a3':atI [A.int a, .int b, .int c, .cel (Ω.length + 1)] 3=some (.cel (Ω.length + 1)):=rfl
 have cu:cutA [A.int a, .int b, .int c, .lst us] none (some 3)=[.int a, .int b, .int c]:=rfl
 have c1:HT.sIx 4 4 (some 3)=3:=rfl
 have li:zaj Ω (.lst us)=some us:=rfl
 have e:za4 [some (.tup [.int a, .int b, .int c, .lst us]),none,none,none] Ω=some (.ret (.bl true),[some (.tup [.int a, .int b, .int c, .lst us]),some (.tup [.int a, .int b, .int c, .lst us]),some (.str T),some (.tup [.int a, .int b, .int c, .cel (Ω.length + 1)])],Ω ++ [.lst (w :: us), .lst (us ++ [.tup [.int 0, .int 0, .int 0]])]):=by
  unfold za4
  rw [zat (ρ1:=[some (.tup [.int a, .int b, .int c, .lst us]),some (.tup [.int a, .int b, .int c, .lst us]),none,none]) (Ω':=Ω) (by simp [a3,cu,c1,s1,s4,li,mkL])]
  rw [zat (ρ1:=[some (.tup [.int a, .int b, .int c, .lst us]),some (.tup [.int a, .int b, .int c, .lst us]),some (.str T),none]) (Ω':=Ω) (by simp [zau,sh])]
  rw [zat (ρ1:=[some (.tup [.int a, .int b, .int c, .lst us]),some (.tup [.int a, .int b, .int c, .lst us]),some (.str T),none]) (Ω':=Ω) (by simp [zau,tx,n1,n2,tyA])]
  rw [zat (ρ1:=[some (.tup [.int a, .int b, .int c, .lst us]),some (.tup [.int a, .int b, .int c, .lst us]),some (.str T),some (.tup [.int a, .int b, .int c, .cel (Ω.length + 1)])]) (Ω':=Ω ++ [.lst (w :: us), .lst us]) (by simp [zau,rd])]
  rw [zat (ρ1:=[some (.tup [.int a, .int b, .int c, .lst us]),some (.tup [.int a, .int b, .int c, .lst us]),some (.str T),some (.tup [.int a, .int b, .int c, .cel (Ω.length + 1)])]) (Ω':=Ω ++ [.lst (w :: us), .lst us]) (by
   generalize zai 4=F4 at sm
   simp [zau,sm])]
  rw [zat (ρ1:=[some (.tup [.int a, .int b, .int c, .lst us]),some (.tup [.int a, .int b, .int c, .lst us]),some (.str T),some (.tup [.int a, .int b, .int c, .cel (Ω.length + 1)])]) (Ω':=Ω ++ [.lst (w :: us), .lst (us ++ [.tup [.int 0, .int 0, .int 0]])]) (by
   rw [← est]
   generalize Ω ++ [Cell.lst (w :: us), .lst us]=W at cl il
   simp [a3',cl,il,hz,s3])]
  simp
 rw [e]
 simp only [zaJ]
 exact zeB (by simp only [Cl])
theorem zlj (ns:List Int) (hns:ns.length ≤ 63):∃ W,zff [.scr ns] []=some (.ok (.bl true),W):=by
 have c0:=zhP ns 0 [] (by decide) (by decide)
 have f0:=zkc ns 0
 generalize ze8 ns 0=x at c0 f0
 obtain ⟨n,hn⟩:=Int.eq_ofNat_of_zero_le (show 0 ≤ 1 + x % 4 by omega)
 obtain ⟨a,b,c,R,hh,hR,hl,p1⟩:=zeW ns hns 1 42 (by decide) (by decide) []
 obtain ⟨a',b',c',R',hh',hR',hl',p2⟩:=zeW ns hns 0 n (by decide) (by omega) []
 have q1:=ze5 hh hR (by omega) []
 have q2:=ze5 hh' hR' (by omega) []
 show ∃ W,trim [] (outR (zc4 [some (.scr ns),none,none] []))=some (.ok (.bl true),W)
 generalize pv a b c R=P at p1 q1
 generalize pv a' b' c' R'=P' at p2 q2
 have e1:((1:Nat):Int)=1:=rfl
 have e42:((42:Nat):Int)=42:=rfl
 have e0:((0:Nat):Int)=0:=rfl
 rw [e1,e42] at p1
 rw [e0] at p2
 have e:zc4 [some (.scr ns),none,none] []=some (.ret (.bl true),[some (.scr ns),some P,some P'],[]):=by
  unfold zc4
  rw [zat (ρ1:=[some (.scr ns),some P,none]) (Ω':=[]) (by simp [zau,p1])]
  rw [zat (ρ1:=[some (.scr ns),some P,some P']) (Ω':=[]) (by simp [zau,c0,hn,p2])]
  simp [zau,q1,q2]
 rw [e]
 simp only [zaJ]
 exact ⟨[],zaV⟩
end M
namespace K76
open PySem L2 V2 PyProof.Rows M
def top (i:Nat):Stmt:=PySem.Challenge.pw_rankpouch_k76_pouches_as_texts.main.body.getD i (.Pass ⟨0,0,0,0⟩)
abbrev zdm:Stmt:=top 5
abbrev zef:Stmt:=top 6
abbrev zbc:Stmt:=top 7
abbrev zaB:Stmt:=top 8
abbrev zaR:Stmt:=top 9
abbrev zaT:Stmt:=top 10
abbrev zbb:Stmt:=top 11
abbrev zbC:Stmt:=top 13
abbrev zbk:Stmt:=top 14
abbrev zaY:Stmt:=top 15
abbrev zaM:Stmt:=top 16
abbrev zaS:Stmt:=top 17
abbrev zba:Stmt:=top 18
abbrev zbn:Stmt:=top 19
abbrev zbd:Stmt:=top 20
abbrev zeq:Stmt:=top 21
structure Blt (mg:Str→Option Value):Prop where
 all:mg "all" = none
 bool:mg "bool" = none
 enumerate:mg "enumerate" = none
 int:mg "int" = none
 isinstance:mg "isinstance" = none
 len:mg "len" = none
 list:mg "list" = none
 max:mg "max" = none
 min:mg "min" = none
 range:mg "range" = none
 reversed:mg "reversed" = none
 str:mg "str" = none
 tuple:mg "tuple" = none
 zip:mg "zip" = none
section
variable {P:Program} {w:World} {K:PySem.W.Frag} {mg:Str→Option Value} {base:Heap}
theorem zdr:zao ["part", "figures"] ["part"] (zaa zbb):=⟨rfl,rfl,rfl,by decide +kernel,rfl,by decide +kernel,by decide +kernel⟩
theorem zf3 (B:Blt mg) (h:HasFn K mg "is_number" zbb) (zbX:∃ t,mg "MOST_FIGURES" = some (.int 60 t)):DefV P w K mg base "is_number" 1 ["part"] zbJ:=by
 refine DefV.of h zdr (fun _ _ _ _ _ _ us hl=>us1 us hl (fun _=>rfl)) (fun f cdv A outer s H E hr=>?_)
 exact (zaf (zaL (i:=1) zdr.nd rfl (Or.inl rfl) (znY (zdG (zeQ PySem.F.slot_str_startswith PySem.F.type_str_startswith zeS zgJ (vv 0) (zab zbS zad))) (ziz (vv 0) zae) (vv 0)))
  (zaf (zdY (VW.vt (zh5 (zck o_lt (zaz zjR rfl B.len PySem.boot_len (zab (vv 1) zad)) zae (zbM _)) (zgC (zck o_gt (zaz zjR rfl B.len PySem.boot_len (zab (vv 1) zad)) (zjv rfl zbX) (zbM _)))))
   (zaq (zaQ zet))
   zbI)
  (zaf (zdY (zfE (zdG (zaz (zjY rfl) rfl B.all PyProof.Rows.boot_all (zab (zeE false ["sign"] [] rfl (LcOk.of (zaa zbb) ["part", "figures"] rfl rfl (by decide +kernel)) (zmM (vv 1)) (fun cl C s H fp=>⟨(za9 (i:=0) (show (["sign"] : List Str).Nodup by decide +kernel) rfl (Or.inl rfl)),zca,(zgn znn (vv 0) zbS rfl)⟩)) zad))))
   (zaq (zaQ zet))
   zbI)
  (zaq (zaQ (znU (zgn (o_eq hr.units) (vv 0) zbS (zbM _)) (zhs (zkb (zeQ PySem.F.slot_str_startswith PySem.F.type_str_startswith zeS zgJ (vv 1) (zab zbS zad))))))))))
theorem zdR:zao ["_law_cell_here", "_law_k", "_law_first"] ["_law_cell_here", "_law_k"] (zaa zbC):=⟨rfl,rfl,rfl,by decide +kernel,rfl,by decide +kernel,by decide +kernel⟩
theorem zhn (B:Blt mg) (h:HasFn K mg "_law_mix" zbC):DefV P w K mg base "_law_mix" 1 ["_law_cell_here", "_law_k"] zaA:=by
 refine DefV.of h zdR (fun _ _ _ _ _ _ us hl=>us2 us hl (fun _ _=>rfl)) (fun f cdv A outer s H E hr=>?_)
 exact (zaf (zaL (i:=2) zdR.nd rfl (Or.inl rfl) (zav zds (zav zfL (zav (zcl false) (vv 0) zae) (zav (zcl false) zae (zav zfL zae (vv 1)))) zae))
  (zaq (zaQ (zav zds (zav (zcl false) (zav (zcl false) (zav zfL (zav zih (vv 2) zae) zae) (zav zfL (vv 2) (zav (zcl false) (zav zfL (vv 1) (vv 1)) zae))) (vv 1)) zae))))
theorem zaK:zao ["_law_number_here", "_law_figures", "_law_rest", "_law_found"] ["_law_number_here"] (zaa zaS):=⟨rfl,rfl,rfl,by decide +kernel,rfl,by decide +kernel,by decide +kernel⟩
theorem zd1 (B:Blt mg) (h:HasFn K mg "_law_written" zaS):DefV P w K mg base "_law_written" 1 ["_law_number_here"] zbq:=by
 refine DefV.of h zaK (fun _ _ _ _ _ _ us hl=>us1 us hl (fun _=>rfl)) (fun f cdv A outer s H E hr=>?_)
 exact (zaf (zaL (i:=1) zaK.nd rfl (Or.inl rfl) zbS)
  (zaf (zaL (i:=2) zaK.nd rfl (Or.inl rfl) (zaz (zmp rfl) rfl B.max boot_max (zab (vv 0) (zab (zav zfX zae (vv 0)) zad))))
  (zaf (zaL (i:=3) zaK.nd rfl (Or.inl rfl) (zka (vv 1) (zav zds (vv 2) zae) (fun _ _=>rfl)))
  (zaf (zgG (fun _ _=>1000000) zal.passes (zck o_gt (vv 2) zae (zbM _))
   (zaf (zaL (i:=2) zaK.nd rfl (Or.inl rfl) (zav zih (vv 2) zae))
   (zaq (zaL (i:=3) zaK.nd rfl (Or.inl rfl) (zav (zir false) (zka (vv 1) (zav zds (vv 2) zae) (fun _ _=>rfl)) (vv 3))))))
  (zaq (zaQ (zav (zir false) (zav zmt zbS (zbL zjW rfl B.int PyProof.Rows.boot_int (zab (zgn o_lt (vv 0) zae (zbM _)) zad))) (vv 3))))))))
theorem zbt:zao ["text", "many", "rows", "at", "line", "parts"] ["text", "many"] (zaa zaT):=⟨rfl,rfl,rfl,by decide +kernel,rfl,by decide +kernel,by decide +kernel⟩
theorem zfU (B:Blt mg) (h:HasFn K mg "read_rows" zaT) (zcU:DefV P w K mg base "is_number" 1 ["part"] zbJ):DefV P w K mg base "read_rows" 2 ["text", "many"] zb9:=by
 refine DefV.of h zbt (fun _ _ _ _ _ _ us hl=>us2 us hl (fun _ _=>rfl)) (fun f cdv A outer s H E hr=>?_)
 exact (zaf (zaL (i:=2) zbt.nd rfl (Or.inl rfl) (zeb true zad))
  (zaf (zgW zal.passes rfl (zk8 rfl B.enumerate (zeQ PySem.F.slot_str_split PySem.F.type_str_split zgS (m_split false) (vv 0) (zab zbS zad))) (zjV rfl (zdB (za9 (i:=3) zbt.nd rfl (Or.inl rfl)) (zdB (za9 (i:=4) zbt.nd rfl (Or.inl rfl)) zia)))
   (zaf (zaL (i:=5) zbt.nd rfl (Or.inl rfl) (zeQ PySem.F.slot_str_split PySem.F.type_str_split zgS (m_split false) (vv 4) (zab zbS zad)))
   (zaf (zdY (VW.vt (zh5 (zck (o_ne hr.units) (zaz zg8 rfl B.len PySem.boot_len (zab (vv 5) zad)) (vv 1) (zbM _)) (zgC (zfE (zdG (zaz (zjY rfl) rfl B.all PyProof.Rows.boot_all (zab (zeE false ["part"] [] rfl (LcOk.of (zaa zaT) ["text", "many", "rows", "at", "line", "parts"] rfl rfl (by decide +kernel)) (zd9 (vv 5)) (fun cl C s H fp=>⟨(za9 (i:=0) (show (["part"] : List Str).Nodup by decide +kernel) rfl (Or.inl rfl)),zca,(zcc (ps:=["part"]) zcU.calm (by exact hr.mono (by decide)) (by exact rfl) (zab (vv 0) zad))⟩)) zad)))))))
    (zaq zjk)
    zbI)
   (zaq (zew (zjb PySem.F.plainAttrs_list PySem.F.slot_list_append PySem.F.type_list_append zc6 zdy (vv 2) (zab (zbL zhQ rfl B.tuple PyProof.Rows.boot_tuple (zab (zeE false ["part"] [] rfl (LcOk.of (zaa zaT) ["text", "many", "rows", "at", "line", "parts"] rfl rfl (by decide +kernel)) (zd9 (vv 5)) (fun cl C s H fp=>⟨(za9 (i:=0) (show (["part"] : List Str).Nodup by decide +kernel) rfl (Or.inl rfl)),zca,(zbL zl5 rfl B.int PyProof.Rows.boot_int (zab (vv 0) zad))⟩)) zad)) zad)))))))
  (zaq (zaQ (vv 2)))))
theorem zcn:zao ["_law_script", "_law_k", "_law_cell_here"] ["_law_script", "_law_k"] (zaa zbk):=⟨rfl,rfl,rfl,by decide +kernel,rfl,by decide +kernel,by decide +kernel⟩
theorem zf0 (B:Blt mg) (h:HasFn K mg "_law_cell" zbk) (zaE:DefV P w K mg base "_law_mix" 1 ["_law_cell_here", "_law_k"] zaA):DefV P w K mg base "_law_cell" 2 ["_law_script", "_law_k"] zaN:=by
 refine DefV.of h zcn (fun _ _ _ _ _ _ us hl=>us2 us hl (fun _ _=>rfl)) (fun f cdv A outer s H E hr=>?_)
 exact (zaf (zaL (i:=2) zcn.nd rfl (Or.inl rfl) zae)
  (zaf (zdY (zck o_lt (vv 1) (zaz zg8 rfl B.len PySem.boot_len (zab (vv 0) zad)) (zbM _))
   (zaq (zaL (i:=2) zcn.nd rfl (Or.inl rfl) (zav zds (zdl (vv 0) (vv 1) (fun _ _=>rfl)) zae)))
   zbI)
  (zaq (zaQ (zbh zal zaE (hr.mono (by decide)) rfl (zab (vv 2) (zab (zav (zcl false) (vv 1) zae) zad)))))))
theorem za1:zao ["_law_cell_here", "_law_size", "_law_number_here", "_law_k"] ["_law_cell_here"] (zaa zaY):=⟨rfl,rfl,rfl,by decide +kernel,rfl,by decide +kernel,by decide +kernel⟩
theorem zeA (B:Blt mg) (h:HasFn K mg "_law_number" zaY) (zaE:DefV P w K mg base "_law_mix" 1 ["_law_cell_here", "_law_k"] zaA):DefV P w K mg base "_law_number" 2 ["_law_cell_here"] zar:=by
 refine DefV.of h za1 (fun _ _ _ _ _ _ us hl=>us1 us hl (fun _=>rfl)) (fun f cdv A outer s H E hr=>?_)
 exact (zaf (zaL (i:=1) za1.nd rfl (Or.inl rfl) (zav (zcl false) zae (zav zds (zav zih (vv 0) zae) zae)))
  (zaf (zaL (i:=2) za1.nd rfl (Or.inl rfl) (zav (zcl false) zae (zav zds (zbh zal zaE (hr.mono (by decide)) rfl (zab (vv 0) (zab zae zad))) zae)))
  (zaf (zgW zal.passes rfl (zdW rfl B.range (zab (zav zfX (vv 1) zae) zad)) (za9 (i:=3) za1.nd rfl (Or.inl rfl))
   (zaq (zaL (i:=2) za1.nd rfl (Or.inl rfl) (zav (zcl false) (zav zfL (vv 2) zae) (zav zds (zbh zal zaE (hr.mono (by decide)) rfl (zab (vv 0) (zab (zav (zcl false) zae (vv 3)) zad))) zae)))))
  (zaq (zaQ (zdl (zeb false (zab zae (zab zae (zab (zav zds (zav zih (vv 0) zae) zae) (zab (zav zfX (zav zfX zae zae) (zav zds (zav zih (vv 0) zae) zae)) (zab (vv 2) (zab (zav zfX zae (vv 2)) (zab (zav zfX (zav zlx zae zae) zae) (zab (zav zfX zae (zav zlx zae zae)) zad))))))))) (zav zds (vv 0) zae) (fun _ _=>rfl)))))))
theorem zdo:zao ["_law_pouch_here", "_law_rows"] ["_law_pouch_here"] (zaa zba):=⟨rfl,rfl,rfl,by decide +kernel,rfl,by decide +kernel,by decide +kernel⟩
theorem zfK (B:Blt mg) (h:HasFn K mg "_law_text" zba) (zbZ:DefV P w K mg base "_law_written" 1 ["_law_number_here"] zbq):DefV P w K mg base "_law_text" 2 ["_law_pouch_here"] zb6:=by
 refine DefV.of h zdo (fun _ _ _ _ _ _ us hl=>us1 us hl (fun _=>rfl)) (fun f cdv A outer s H E hr=>?_)
 exact (zaf (zaL (i:=1) zdo.nd rfl (Or.inl rfl) (zav (zcl false) (zeb false (zab (zej false (vv 0) zgf (zfP zae)) zad)) (zdl (vv 0) zae (fun _ _=>rfl))))
  (zaq (zaQ (zeQ PySem.F.slot_str_join PySem.F.type_str_join zeD zgu zbS (zab (zeE false ["_law_row"] [] rfl (LcOk.of (zaa zba) ["_law_pouch_here", "_law_rows"] rfl rfl (by decide +kernel)) (zd9 (vv 1)) (fun cl C s H fp=>⟨(za9 (i:=0) (show (["_law_row"] : List Str).Nodup by decide +kernel) rfl (Or.inl rfl)),zca,(zeQ PySem.F.slot_str_join PySem.F.type_str_join zeD zgu zbS (zab (zeE false ["_law_number_here"] [] rfl (LcOk.of0 (by decide +kernel)) (zd9 (vv 0)) (fun cl C s H fp=>⟨(za9 (i:=0) (show (["_law_number_here"] : List Str).Nodup by decide +kernel) rfl (Or.inl rfl)),zca,(zcc (ps:=["_law_number_here"]) zbZ.calm (by exact hr.mono (by decide)) (by exact rfl) (zab (vv 0) zad))⟩)) zad))⟩)) zad)))))
theorem zf8:zao ["text", "rows", "head"] ["text"] (zaa zef):=⟨rfl,rfl,rfl,by decide +kernel,rfl,by decide +kernel,by decide +kernel⟩
theorem zmO (B:Blt mg) (h:HasFn K mg "read" zef) (zcX:DefV P w K mg base "read_rows" 2 ["text", "many"] zb9):DefV P w K mg base "read" 3 ["text"] zgF:=by
 refine DefV.of h zf8 (fun _ _ _ _ _ _ us hl=>us1 us hl (fun _=>rfl)) (fun f cdv A outer s H E hr=>?_)
 exact (zaf (zaL (i:=1) zf8.nd rfl (Or.inl rfl) (zbh zal zcX (hr.mono (by decide)) rfl (zab (vv 0) (zab zae zad))))
  (zaf (zaL (i:=2) zf8.nd rfl (Or.inl rfl) (zdl (vv 1) zae (fun _ _=>rfl)))
  (zaq (zaQ (zfI (zab (zdl (vv 2) zae (fun _ _=>rfl)) (zab (zdl (vv 2) zae (fun _ _=>rfl)) (zab (zdl (vv 2) zae (fun _ _=>rfl)) (zab (zej true (vv 1) (zfP zae) zgf) zad)))))))))
theorem zbK:zao ["number", "parts"] ["number"] (zaa zaR):=⟨rfl,rfl,rfl,by decide +kernel,rfl,by decide +kernel,by decide +kernel⟩
theorem zcH (B:Blt mg) (h:HasFn K mg "shown_number" zaR):∀ n:Nat,DefV P w K mg base "shown_number" (1 + n) ["number"] (zam n)
 | 0=>DefV.of (k:=0) h zbK (fun _ _ _ _ _ _ us hl=>us1 us hl (fun _=>rfl)) (fun f cdv A outer s H E hr=>zhZ)
 | n + 1=>by
  have ih:=zcH B h  n
  refine DefV.of (k:=1 + n) h zbK (fun _ _ _ _ _ _ us hl=>us1 us hl (fun _=>rfl)) (fun f cdv A outer s H E hr=>?_)
  exact (zaf (zdY (zck o_lt (vv 0) zae (zbM _))
   (zaq (zaQ (zav (zir false) zbS (zbh zal ih (hr.mono (by first | decide | omega)) rfl (zab (zmo (vv 0)) zad)))))
   zbI)
  (zaf (zaL (i:=1) zbK.nd rfl (Or.inl rfl) (zeb true zad))
  (zaf (zgG (fun _ _=>1000000) zal.passes (zck o_ge (vv 0) (zav zlx zae zae) (zbM _))
   zhZ)
  (zaf (zew (zjb PySem.F.plainAttrs_list PySem.F.slot_list_append PySem.F.type_list_append zc6 zdy (vv 1) (zab (zbL zmu rfl B.str PyProof.Rows.boot_str (zab (vv 0) zad)) zad)))
  (zaq (zaQ (zg9 rfl rfl B.reversed zbS (vv 1))))))))
theorem zbe:zao ["_law_script", "_law_start", "_law_most", "_law_head", "_law_entries", "_law_k", "_law_cell_here"] ["_law_script", "_law_start", "_law_most"] (zaa zaM):=⟨rfl,rfl,rfl,by decide +kernel,rfl,by decide +kernel,by decide +kernel⟩
theorem zfu (B:Blt mg) (h:HasFn K mg "_law_pouch" zaM) (za7:DefV P w K mg base "_law_cell" 2 ["_law_script", "_law_k"] zaN) (zaE:DefV P w K mg base "_law_mix" 1 ["_law_cell_here", "_law_k"] zaA) (zbz:DefV P w K mg base "_law_number" 2 ["_law_cell_here"] zar):DefV P w K mg base "_law_pouch" 3 ["_law_script", "_law_start", "_law_most"] zaU:=by
 refine DefV.of h zbe (fun _ _ _ _ _ _ us hl=>us3 us hl (fun _ _ _=>rfl)) (fun f cdv A outer s H E hr=>?_)
 exact (zaf (zaL (i:=3) zbe.nd rfl (Or.inl rfl) (zbL zhQ rfl B.tuple PyProof.Rows.boot_tuple (zab (zeE false ["_law_k"] [0,1] rfl (LcOk.of (zaa zaM) ["_law_script", "_law_start", "_law_most", "_law_head", "_law_entries", "_law_k", "_law_cell_here"] rfl rfl (by decide +kernel)) (zdW rfl B.range (zab zae zad)) (fun cl C s H fp=>⟨(za9 (i:=0) (show (["_law_k", "_law_script", "_law_start"] : List Str).Nodup by decide +kernel) rfl (Or.inl rfl)),zca,(zcc (ps:=["_law_cell_here"]) zbz.calm (by exact hr.mono (by decide)) (by exact rfl) (zab (zcc (ps:=["_law_cell_here", "_law_k"]) zaE.calm (by exact hr.mono (by decide)) (by exact rfl) (zab (zcc (ps:=["_law_script", "_law_k"]) za7.calm (by exact hr.mono (by decide)) (by exact rfl) (zab (vv 1) (zab (vv 2) zad))) (zab (vv 0) zad))) zad))⟩)) zad)))
  (zaf (zaL (i:=4) zbe.nd rfl (Or.inl rfl) (zeb true zad))
  (zaf (zgW zal.passes rfl (zh6 rfl B.range (zab (zav (zcl false) (vv 1) zae) (zab (zaz (zmJ rfl) rfl B.min boot_min (zab (zaz zg8 rfl B.len PySem.boot_len (zab (vv 0) zad)) (zab (zav (zcl false) (vv 1) (vv 2)) zad))) zad))) (za9 (i:=5) zbe.nd rfl (Or.inl rfl))
   (zaf (zaL (i:=6) zbe.nd rfl (Or.inr rfl) (zbh zal zaE (hr.mono (by decide)) rfl (zab (zbh zal za7 (hr.mono (by decide)) rfl (zab (vv 0) (zab (vv 5) zad))) (zab (vv 5) zad))))
   (zaq (zew (zjb PySem.F.plainAttrs_list PySem.F.slot_list_append PySem.F.type_list_append zc6 zdy (vv 4) (zab (zbL zhQ rfl B.tuple PyProof.Rows.boot_tuple (zab (zeE false ["_law_part"] [6] rfl (LcOk.of (zaa zaM) ["_law_script", "_law_start", "_law_most", "_law_head", "_law_entries", "_law_k", "_law_cell_here"] rfl rfl (by decide +kernel)) (zdW rfl B.range (zab zae zad)) (fun cl C s H fp=>⟨(za9 (i:=0) (show (["_law_part", "_law_cell_here"] : List Str).Nodup by decide +kernel) rfl (Or.inl rfl)),zca,(zcc (ps:=["_law_cell_here"]) zbz.calm (by exact hr.mono (by decide)) (by exact rfl) (zab (zcc (ps:=["_law_cell_here", "_law_k"]) zaE.calm (by exact hr.mono (by decide)) (by exact rfl) (zab (vv 1) (zab (vv 0) zad))) zad))⟩)) zad)) zad))))))
  (zaq (zaQ (zav (zcl false) (vv 3) (zfI (zab (vf 4) zad))))))))
theorem zdv:zao ["numbers"] ["numbers"] (zaa zaB):=⟨rfl,rfl,rfl,by decide +kernel,rfl,by decide +kernel,by decide +kernel⟩
theorem zdN (B:Blt mg) (h:HasFn K mg "shown_numbers" zaB) (zbY:DefV P w K mg base "shown_number" 3 ["number"] (zam 2)):DefV P w K mg base "shown_numbers" 4 ["numbers"] zaW:=by
 refine DefV.of h zdv (fun _ _ _ _ _ _ us hl=>us1 us hl (fun _=>rfl)) (fun f cdv A outer s H E hr=>?_)
 exact (zaq (zaQ (zeQ PySem.F.slot_str_join PySem.F.type_str_join zeD zgu zbS (zab (zeE false ["number"] [] rfl (LcOk.of (zaa zaB) ["numbers"] rfl rfl (by decide +kernel)) (zd9 (vv 0)) (fun cl C s H fp=>⟨(za9 (i:=0) (show (["number"] : List Str).Nodup by decide +kernel) rfl (Or.inl rfl)),zca,(zcc (ps:=["number"]) zbY.calm (by exact hr.mono (by decide)) (by exact rfl) (zab (vv 0) zad))⟩)) zad))))
theorem zfr:zao ["row"] ["row"] (zaa zbc):=⟨rfl,rfl,rfl,by decide +kernel,rfl,by decide +kernel,by decide +kernel⟩
theorem zfW (B:Blt mg) (h:HasFn K mg "shown_row" zbc) (zbD:DefV P w K mg base "shown_numbers" 4 ["numbers"] zaW):DefV P w K mg base "shown_row" 5 ["row"] zcb:=by
 refine DefV.of h zfr (fun _ _ _ _ _ _ us hl=>us1 us hl (fun _=>rfl)) (fun f cdv A outer s H E hr=>?_)
 exact (zaq (zaQ (zeQ PySem.F.slot_str_join PySem.F.type_str_join zeD zgu zbS (zab (zeE false ["numbers"] [] rfl (LcOk.of (zaa zbc) ["row"] rfl rfl (by decide +kernel)) (zd9 (vv 0)) (fun cl C s H fp=>⟨(za9 (i:=0) (show (["numbers"] : List Str).Nodup by decide +kernel) rfl (Or.inl rfl)),zca,(zcc (ps:=["numbers"]) zbD.calm (by exact hr.mono (by decide)) (by exact rfl) (zab (vv 0) zad))⟩)) zad))))
theorem zbQ:zao ["_law_found", "_law_due", "_law_one", "_law_other"] ["_law_found", "_law_due"] (zaa zbn):=⟨rfl,rfl,rfl,by decide +kernel,rfl,by decide +kernel,by decide +kernel⟩
theorem zdP (B:Blt mg) (h:HasFn K mg "_law_same" zbn):∀ n:Nat,DefV P w K mg base "_law_same" (1 + n) ["_law_found", "_law_due"] (zai n)
 | 0=>DefV.of (k:=0) h zbQ (fun _ _ _ _ _ _ us hl=>us2 us hl (fun _ _=>rfl)) (fun f cdv A outer s H E hr=>zhZ)
 | n + 1=>by
  have ih:=zdP B h  n
  refine DefV.of (k:=1 + n) h zbQ (fun _ _ _ _ _ _ us hl=>us2 us hl (fun _ _=>rfl)) (fun f cdv A outer s H E hr=>?_)
  exact (zaf (zdY (zdG (zaz zbT rfl B.isinstance boot_isinstance (zab (vv 1) (zab (zfA rfl B.int PyProof.Rows.boot_int) zad))))
   (zaq (zaQ (zgT (zaz zbT rfl B.isinstance boot_isinstance (zab (vv 0) (zab (zfA rfl B.int PyProof.Rows.boot_int) zad))) (zgT (zkb (zaz zbT rfl B.isinstance boot_isinstance (zab (vv 0) (zab (zfA rfl B.bool PyProof.Rows.boot_bool) zad)))) (zhs (zgn (o_eq hr.units) (vv 0) (vv 1) (zbM _)))))))
   zbI)
  (zaf (zdY (VW.vt (zh5 (zck (o_ne hr.units) (zaz zbT rfl B.isinstance boot_isinstance (zab (vv 0) (zab (zfA rfl B.tuple PyProof.Rows.boot_tuple) zad))) (zaz zbT rfl B.isinstance boot_isinstance (zab (vv 1) (zab (zfA rfl B.tuple PyProof.Rows.boot_tuple) zad))) (zbM _)) (zgC (zck (o_ne hr.units) (zaz zbT rfl B.isinstance boot_isinstance (zab (vv 0) (zab (zfA rfl B.list PyProof.Rows.boot_list) zad))) (zaz zbT rfl B.isinstance boot_isinstance (zab (vv 1) (zab (zfA rfl B.list PyProof.Rows.boot_list) zad))) (zbM _)))))
   (zaq (zaQ zet))
   zbI)
  (zaf (zdY (zck (o_ne hr.units) (zaz zg8 rfl B.len PySem.boot_len (zab (vv 0) zad)) (zaz zg8 rfl B.len PySem.boot_len (zab (vv 1) zad)) (zbM _))
   (zaq (zaQ zet))
   zbI)
  (zaf (zgW zal.passes rfl (zku rfl B.zip (vv 0) (vv 1)) (zjV rfl (zdB (za9 (i:=2) zbQ.nd rfl (Or.inl rfl)) (zdB (za9 (i:=3) zbQ.nd rfl (Or.inl rfl)) zia)))
   (zaq (zdY (zfE (zdG (zbh zal ih (hr.mono (by first | decide | omega)) rfl (zab (vv 2) (zab (vv 3) zad)))))
    (zaq (zaQ zet))
    zbI)))
  (zaq (zaQ zet))))))
theorem zi0:zao ["pouch"] ["pouch"] (zaa zdm):=⟨rfl,rfl,rfl,by decide +kernel,rfl,by decide +kernel,by decide +kernel⟩
theorem zkW (B:Blt mg) (h:HasFn K mg "shown" zdm) (zc0:DefV P w K mg base "shown_row" 5 ["row"] zcb):DefV P w K mg base "shown" 6 ["pouch"] zeK:=by
 refine DefV.of h zi0 (fun _ _ _ _ _ _ us hl=>us1 us hl (fun _=>rfl)) (fun f cdv A outer s H E hr=>?_)
 exact (zaq (zaQ (zbh zal zc0 (hr.mono (by decide)) rfl (zab (zav (zcl false) (zeb false (zab (zfI (zab (zdl (vv 0) zae (fun _ _=>rfl)) (zab (zdl (vv 0) zae (fun _ _=>rfl)) (zab (zdl (vv 0) zae (fun _ _=>rfl)) zad)))) zad)) (zdl (vv 0) zae (fun _ _=>rfl))) zad))))
theorem zbA:zao ["_law_pouch_here", "_law_handed", "_law_text_here", "_law_found"] ["_law_pouch_here"] (zaa zbd):=⟨rfl,rfl,rfl,by decide +kernel,rfl,by decide +kernel,by decide +kernel⟩
theorem zfs (B:Blt mg) (h:HasFn K mg "_law_asked" zbd) (zcT:DefV P w K mg base "_law_same" 5 ["_law_found", "_law_due"] (zai 4)) (zcS:DefV P w K mg base "_law_text" 2 ["_law_pouch_here"] zb6) (zhE:DefV P w K mg base "read" 3 ["text"] zgF) (zf9:DefV P w K mg base "shown" 6 ["pouch"] zeK):DefV P w K mg base "_law_asked" 7 ["_law_pouch_here"] zaD:=by
 refine DefV.of h zbA (fun _ _ _ _ _ _ us hl=>us1 us hl (fun _=>rfl)) (fun f cdv A outer s H E hr=>?_)
 exact (zaf (zaL (i:=1) zbA.nd rfl (Or.inl rfl) (zav (zcl false) (zej false (vv 0) zgf (zfP zae)) (zfI (zab (zbL (zml false) rfl B.list PyProof.Rows.boot_list (zab (zdl (vv 0) zae (fun _ _=>rfl)) zad)) zad))))
  (zaf (zaL (i:=2) zbA.nd rfl (Or.inl rfl) (zbh zal zf9 (hr.mono (by decide)) rfl (zab (vv 1) zad)))
  (zaf (zdY (VW.vt (zh5 (zfE (zdG (zaz zbT rfl B.isinstance boot_isinstance (zab (vv 2) (zab (zfA rfl B.str PyProof.Rows.boot_str) zad))))) (zh5 (zck (o_ne hr.units) (vv 2) (zbh zal zcS (hr.mono (by decide)) rfl (zab (vv 0) zad)) (zbM _)) (zgC (zck (o_ne hr.units) (vv 1) (vv 0) (zbM _))))))
   (zaq (zaQ zet))
   zbI)
  (zaf (zaL (i:=3) zbA.nd rfl (Or.inl rfl) (zbh zal zhE (hr.mono (by decide)) rfl (zab (vv 2) zad)))
  (zaf (zdY (zfE (zdG (zbh zal zcT (hr.mono (by decide)) rfl (zab (vv 3) (zab (vv 0) zad)))))
   (zaq (zaQ zet))
   zbI)
  (zaf (zew (zjb PySem.F.plainAttrs_list PySem.F.slot_list_append PySem.F.type_list_append zc6 zdy (zdl (vv 3) zae (fun _ _=>rfl)) (zab (zfI (zab zae (zab zae (zab zae zad)))) zad)))
  (zaq (zaQ zet))))))))
theorem zhN:zao ["_law_script", "_law_first", "_law_second"] ["_law_script"] (zaa zeq):=⟨rfl,rfl,rfl,by decide +kernel,rfl,by decide +kernel,by decide +kernel⟩
theorem zn1 {f:Addr} {fd:FuncData} (B:Blt mg) (F:Fun K "law" "law" zeq f fd) (zbs:DefV P w K mg base "_law_asked" 7 ["_law_pouch_here"] zaD) (za7:DefV P w K mg base "_law_cell" 2 ["_law_script", "_law_k"] zaN) (zbU:DefV P w K mg base "_law_pouch" 3 ["_law_script", "_law_start", "_law_most"] zaU):FnOk P w K mg base (CXE P w) 8 f fd ["_law_script"] (spV K 1 zff):=by
 refine zj3 F zhN (fun f cdv A outer s H E hr=>?_)
 exact (zaf (zaL (i:=1) zhN.nd rfl (Or.inl rfl) (zbh zal zbU (hr.mono (by decide)) rfl (zab (vv 0) (zab zae (zab zae zad)))))
  (zaf (zaL (i:=2) zhN.nd rfl (Or.inl rfl) (zbh zal zbU (hr.mono (by decide)) rfl (zab (vv 0) (zab zae (zab (zav (zcl false) zae (zav zds (zbh zal za7 (hr.mono (by decide)) rfl (zab (vv 0) (zab zae zad))) zae)) zad)))))
  (zaq (zaQ (zgT (zbh zal zbs (hr.mono (by decide)) rfl (zab (vv 1) zad)) (zgT (zbh zal zbs (hr.mono (by decide)) rfl (zab (vv 2) zad)) (zhs (zbh zal zbs (hr.mono (by decide)) rfl (zab (vv 1) zad)))))))))
end
theorem all_mk {l:PySem.W.OpenLaw} {w:World} {K:PySem.W.Frag} {h:Heap} {mg:Str→Option Value} {fa f0 f1 f2 f3 f4 f5 f6 f7 f8 f9 f10 f11 f12 f13 f14 f15:Addr} (X:K.In h) (G:h.Ns mainGlobals mg) (hfa:mg "law" = some (.ref fa))
  {od0 an0 od1 an1 od2 an2 od3 an3 od4 an4 od5 an5 od6 an6 od7 an7 od8 an8 od9 an9 od10 an10 od11 an11 od12 an12 od13 an13 od14 an14 od15 an15:Option Addr} {sl0 sl1 sl2 sl3 sl4 sl5 sl6 sl7 sl8 sl9 sl10 sl11 sl12 sl13 sl14 sl15:Array (Option Value)} {oc0 kV0 dc0 pm0 cd0 ct0 oc1 kV1 dc1 pm1 cd1 ct1 oc2 kV2 dc2 pm2 cd2 ct2 oc3 kV3 dc3 pm3 cd3 ct3 oc4 kV4 dc4 pm4 cd4 ct4 oc5 kV5 dc5 pm5 cd5 ct5 oc6 kV6 dc6 pm6 cd6 ct6 oc7 kV7 dc7 pm7 cd7 ct7 oc8 kV8 dc8 pm8 cd8 ct8 oc9 kV9 dc9 pm9 cd9 ct9 oc10 kV10 dc10 pm10 cd10 ct10 oc11 kV11 dc11 pm11 cd11 ct11 oc12 kV12 dc12 pm12 cd12 ct12 oc13 kV13 dc13 pm13 cd13 ct13 oc14 kV14 dc14 pm14 cd14 ct14 oc15 kV15 dc15 pm15 cd15 ct15:Value}
  (a0:PySem.W.nsIn K mainGlobals "shown" = some (some (.ref f0))) (l0:K.lookup f0=some ⟨oc0,od0, .func (PySem.W.fnOf "shown" "shown" (zap zdm) (zag zdm) (zaa zdm) .none kV0 dc0 pm0 an0 cd0 ct0),sl0⟩) (c0:PySem.W.codeIn K cd0 "shown" = true) (k0:PySem.W.keepIn K (.ref f0)=true)
  (a1:PySem.W.nsIn K mainGlobals "read" = some (some (.ref f1))) (l1:K.lookup f1=some ⟨oc1,od1, .func (PySem.W.fnOf "read" "read" (zap zef) (zag zef) (zaa zef) .none kV1 dc1 pm1 an1 cd1 ct1),sl1⟩) (c1:PySem.W.codeIn K cd1 "read" = true) (k1:PySem.W.keepIn K (.ref f1)=true)
  (a2:PySem.W.nsIn K mainGlobals "shown_row" = some (some (.ref f2))) (l2:K.lookup f2=some ⟨oc2,od2, .func (PySem.W.fnOf "shown_row" "shown_row" (zap zbc) (zag zbc) (zaa zbc) .none kV2 dc2 pm2 an2 cd2 ct2),sl2⟩) (c2:PySem.W.codeIn K cd2 "shown_row" = true) (k2:PySem.W.keepIn K (.ref f2)=true)
  (a3:PySem.W.nsIn K mainGlobals "shown_numbers" = some (some (.ref f3))) (l3:K.lookup f3=some ⟨oc3,od3, .func (PySem.W.fnOf "shown_numbers" "shown_numbers" (zap zaB) (zag zaB) (zaa zaB) .none kV3 dc3 pm3 an3 cd3 ct3),sl3⟩) (c3:PySem.W.codeIn K cd3 "shown_numbers" = true) (k3:PySem.W.keepIn K (.ref f3)=true)
  (a4:PySem.W.nsIn K mainGlobals "shown_number" = some (some (.ref f4))) (l4:K.lookup f4=some ⟨oc4,od4, .func (PySem.W.fnOf "shown_number" "shown_number" (zap zaR) (zag zaR) (zaa zaR) .none kV4 dc4 pm4 an4 cd4 ct4),sl4⟩) (c4:PySem.W.codeIn K cd4 "shown_number" = true) (k4:PySem.W.keepIn K (.ref f4)=true)
  (a5:PySem.W.nsIn K mainGlobals "read_rows" = some (some (.ref f5))) (l5:K.lookup f5=some ⟨oc5,od5, .func (PySem.W.fnOf "read_rows" "read_rows" (zap zaT) (zag zaT) (zaa zaT) .none kV5 dc5 pm5 an5 cd5 ct5),sl5⟩) (c5:PySem.W.codeIn K cd5 "read_rows" = true) (k5:PySem.W.keepIn K (.ref f5)=true)
  (a6:PySem.W.nsIn K mainGlobals "is_number" = some (some (.ref f6))) (l6:K.lookup f6=some ⟨oc6,od6, .func (PySem.W.fnOf "is_number" "is_number" (zap zbb) (zag zbb) (zaa zbb) .none kV6 dc6 pm6 an6 cd6 ct6),sl6⟩) (c6:PySem.W.codeIn K cd6 "is_number" = true) (k6:PySem.W.keepIn K (.ref f6)=true)
  (a7:PySem.W.nsIn K mainGlobals "_law_mix" = some (some (.ref f7))) (l7:K.lookup f7=some ⟨oc7,od7, .func (PySem.W.fnOf "_law_mix" "_law_mix" (zap zbC) (zag zbC) (zaa zbC) .none kV7 dc7 pm7 an7 cd7 ct7),sl7⟩) (c7:PySem.W.codeIn K cd7 "_law_mix" = true) (k7:PySem.W.keepIn K (.ref f7)=true)
  (a8:PySem.W.nsIn K mainGlobals "_law_cell" = some (some (.ref f8))) (l8:K.lookup f8=some ⟨oc8,od8, .func (PySem.W.fnOf "_law_cell" "_law_cell" (zap zbk) (zag zbk) (zaa zbk) .none kV8 dc8 pm8 an8 cd8 ct8),sl8⟩) (c8:PySem.W.codeIn K cd8 "_law_cell" = true) (k8:PySem.W.keepIn K (.ref f8)=true)
  (a9:PySem.W.nsIn K mainGlobals "_law_number" = some (some (.ref f9))) (l9:K.lookup f9=some ⟨oc9,od9, .func (PySem.W.fnOf "_law_number" "_law_number" (zap zaY) (zag zaY) (zaa zaY) .none kV9 dc9 pm9 an9 cd9 ct9),sl9⟩) (c9:PySem.W.codeIn K cd9 "_law_number" = true) (k9:PySem.W.keepIn K (.ref f9)=true)
  (a10:PySem.W.nsIn K mainGlobals "_law_pouch" = some (some (.ref f10))) (l10:K.lookup f10=some ⟨oc10,od10, .func (PySem.W.fnOf "_law_pouch" "_law_pouch" (zap zaM) (zag zaM) (zaa zaM) .none kV10 dc10 pm10 an10 cd10 ct10),sl10⟩) (c10:PySem.W.codeIn K cd10 "_law_pouch" = true) (k10:PySem.W.keepIn K (.ref f10)=true)
  (a11:PySem.W.nsIn K mainGlobals "_law_written" = some (some (.ref f11))) (l11:K.lookup f11=some ⟨oc11,od11, .func (PySem.W.fnOf "_law_written" "_law_written" (zap zaS) (zag zaS) (zaa zaS) .none kV11 dc11 pm11 an11 cd11 ct11),sl11⟩) (c11:PySem.W.codeIn K cd11 "_law_written" = true) (k11:PySem.W.keepIn K (.ref f11)=true)
  (a12:PySem.W.nsIn K mainGlobals "_law_text" = some (some (.ref f12))) (l12:K.lookup f12=some ⟨oc12,od12, .func (PySem.W.fnOf "_law_text" "_law_text" (zap zba) (zag zba) (zaa zba) .none kV12 dc12 pm12 an12 cd12 ct12),sl12⟩) (c12:PySem.W.codeIn K cd12 "_law_text" = true) (k12:PySem.W.keepIn K (.ref f12)=true)
  (a13:PySem.W.nsIn K mainGlobals "_law_same" = some (some (.ref f13))) (l13:K.lookup f13=some ⟨oc13,od13, .func (PySem.W.fnOf "_law_same" "_law_same" (zap zbn) (zag zbn) (zaa zbn) .none kV13 dc13 pm13 an13 cd13 ct13),sl13⟩) (c13:PySem.W.codeIn K cd13 "_law_same" = true) (k13:PySem.W.keepIn K (.ref f13)=true)
  (a14:PySem.W.nsIn K mainGlobals "_law_asked" = some (some (.ref f14))) (l14:K.lookup f14=some ⟨oc14,od14, .func (PySem.W.fnOf "_law_asked" "_law_asked" (zap zbd) (zag zbd) (zaa zbd) .none kV14 dc14 pm14 an14 cd14 ct14),sl14⟩) (c14:PySem.W.codeIn K cd14 "_law_asked" = true) (k14:PySem.W.keepIn K (.ref f14)=true)
  (a15:PySem.W.nsIn K mainGlobals "law" = some (some (.ref f15))) (l15:K.lookup f15=some ⟨oc15,od15, .func (PySem.W.fnOf "law" "law" (zap zeq) (zag zeq) (zaa zeq) .none kV15 dc15 pm15 an15 cd15 ct15),sl15⟩) (c15:PySem.W.codeIn K cd15 "law" = true) (k15:PySem.W.keepIn K (.ref f15)=true)
  (zkZ:PySem.W.nsIn K mainGlobals "all" = some none)
  (zil:PySem.W.nsIn K mainGlobals "bool" = some none)
  (zcW:PySem.W.nsIn K mainGlobals "enumerate" = some none)
  (zkU:PySem.W.nsIn K mainGlobals "int" = some none)
  (zcA:PySem.W.nsIn K mainGlobals "isinstance" = some none)
  (zkN:PySem.W.nsIn K mainGlobals "len" = some none)
  (zhy:PySem.W.nsIn K mainGlobals "list" = some none)
  (zkG:PySem.W.nsIn K mainGlobals "max" = some none)
  (zln:PySem.W.nsIn K mainGlobals "min" = some none)
  (zf6:PySem.W.nsIn K mainGlobals "range" = some none)
  (zdi:PySem.W.nsIn K mainGlobals "reversed" = some none)
  (zkC:PySem.W.nsIn K mainGlobals "str" = some none)
  (zfM:PySem.W.nsIn K mainGlobals "tuple" = some none)
  (zls:PySem.W.nsIn K mainGlobals "zip" = some none)
  {zd4:Tok} (zbV:PySem.W.nsIn K mainGlobals "MOST_FIGURES" = some (some (.int 60 zd4)))
  : ∃ fd:FuncData,(∀ (s:Shared) (v:Value),BindsTo s fd ⟨[v],[]⟩ [("_law_script",v)])∧∀ base:Heap,K.In base→base.Ns mainGlobals mg→FnOk l.prog w K mg base CX0 8 fa fd ["_law_script"] (zjA K):=by
 have e:=hfa.symm.trans (PySem.W.mg_of X G a15)
 cases e
 have znP:=PySem.W.mg_none_of X G zkZ
 have y_bool:=PySem.W.mg_none_of X G zil
 have zfV:=PySem.W.mg_none_of X G zcW
 have znL:=PySem.W.mg_none_of X G zkU
 have zeO:=PySem.W.mg_none_of X G zcA
 have znV:=PySem.W.mg_none_of X G zkN
 have zmx:=PySem.W.mg_none_of X G zhy
 have zn2:=PySem.W.mg_none_of X G zkG
 have znv:=PySem.W.mg_none_of X G zln
 have zlf:=PySem.W.mg_none_of X G zf6
 have zhg:=PySem.W.mg_none_of X G zdi
 have znX:=PySem.W.mg_none_of X G zkC
 have zkB:=PySem.W.mg_none_of X G zfM
 have znZ:=PySem.W.mg_none_of X G zls
 have B:Blt mg:=⟨znP,y_bool,zfV,znL,zeO,znV,zmx,zn2,znv,zlf,zhg,znX,zkB,znZ⟩
 have zbX:∃ t,mg "MOST_FIGURES" = some (.int 60 t):=⟨_,PySem.W.mg_of X G zbV⟩
 have zlo:HasFn K mg "shown" zdm:=zaO X G a0 l0 c0 k0
 have zm7:HasFn K mg "read" zef:=zaO X G a1 l1 c1 k1
 have zfT:HasFn K mg "shown_row" zbc:=zaO X G a2 l2 c2 k2
 have zdO:HasFn K mg "shown_numbers" zaB:=zaO X G a3 l3 c3 k3
 have zd5:HasFn K mg "shown_number" zaR:=zaO X G a4 l4 c4 k4
 have zfJ:HasFn K mg "read_rows" zaT:=zaO X G a5 l5 c5 k5
 have zgj:HasFn K mg "is_number" zbb:=zaO X G a6 l6 c6 k6
 have zho:HasFn K mg "_law_mix" zbC:=zaO X G a7 l7 c7 k7
 have zf4:HasFn K mg "_law_cell" zbk:=zaO X G a8 l8 c8 k8
 have zez:HasFn K mg "_law_number" zaY:=zaO X G a9 l9 c9 k9
 have zfD:HasFn K mg "_law_pouch" zaM:=zaO X G a10 l10 c10 k10
 have zd0:HasFn K mg "_law_written" zaS:=zaO X G a11 l11 c11 k11
 have zfR:HasFn K mg "_law_text" zba:=zaO X G a12 l12 c12 k12
 have zgb:HasFn K mg "_law_same" zbn:=zaO X G a13 l13 c13 k13
 have zfG:HasFn K mg "_law_asked" zbd:=zaO X G a14 l14 c14 k14
 have FL:=zjN (st:=zeq) l15 c15 k15
 refine ⟨PySem.W.fnOf "law" "law" (zap zeq) (zag zeq) (zaa zeq) .none kV15 dc15 pm15 an15 cd15 ct15,fun s v => .of_eq rfl,fun base _ _=>?_⟩
 have zcU:=zf3 (P:=l.prog) (w:=w) (base:=base) B zgj zbX
 have zaE:=zhn (P:=l.prog) (w:=w) (base:=base) B zho
 have zbZ:=zd1 (P:=l.prog) (w:=w) (base:=base) B zd0
 have zcX:=zfU (P:=l.prog) (w:=w) (base:=base) B zfJ zcU
 have za7:=zf0 (P:=l.prog) (w:=w) (base:=base) B zf4 zaE
 have zbz:=zeA (P:=l.prog) (w:=w) (base:=base) B zez zaE
 have zcS:=zfK (P:=l.prog) (w:=w) (base:=base) B zfR zbZ
 have zhE:=zmO (P:=l.prog) (w:=w) (base:=base) B zm7 zcX
 have zbY:=zcH (P:=l.prog) (w:=w) (base:=base) B zd5 2
 have zbU:=zfu (P:=l.prog) (w:=w) (base:=base) B zfD za7 zaE zbz
 have zbD:=zdN (P:=l.prog) (w:=w) (base:=base) B zdO zbY
 have zc0:=zfW (P:=l.prog) (w:=w) (base:=base) B zfT zbD
 have zcT:=zdP (P:=l.prog) (w:=w) (base:=base) B zgb 4
 have zf9:=zkW (P:=l.prog) (w:=w) (base:=base) B zlo zc0
 have zbs:=zfs (P:=l.prog) (w:=w) (base:=base) B zfG zcT zcS zhE zf9
 exact zmV (zn1 B FL zbs za7 zbU) M.zlj
theorem walk {l:PySem.W.OpenLaw} {q:Program} {loose:List Str} {XP:(Str→Option Value)→Heap→Prop} {YP:World→Heap→Prop} {d:DefRec} {K:Params→PySem.W.Frag} (hn:l.most=some 63) (hdf:d.params.defaults=[])
  (hY:∀ (w:World) (h:Heap),YP w h→(K w.params).In h)
  (F:∀ (w:World) (mg:Str→Option Value) (fa:Addr) (h:Heap),(K w.params).In h→h.Ns mainGlobals mg→mg d.name=some (.ref fa) →
   ∃ fd:FuncData,(∀ (s:Shared) (u:Value),BindsTo s fd ⟨[u],[]⟩ [("_law_script",u)])∧∀ base:Heap,(K w.params).In base→base.Ns mainGlobals mg→FnOk l.prog w (K w.params) mg base CX0 8 fa fd ["_law_script"] (zjA (K w.params))) :
  PySem.W.WalkO q loose XP YP l.row.toRowW d [] (fun f vs=>PySem.call f vs) :=
 L2.zkq (n:=63) (k:=8) (x := "_law_script") (CX:=fun _=>CX0) (sp:=fun w=>zjA (K w.params)) hn (by decide) hdf ⟨rfl,by decide,by decide⟩ hY F (fun _ _ a ns hl _ hS=>⟨a,ns,rfl,hS,hl,fun _=>rfl⟩) fun _ _ _ _ _ z=>z
end K76
open PySem PySem.W PyProof.Rows
namespace HD
open PySem PySem.W PyProof.Rows
def runT (B:String→Option Builtin) (p:Program) (w:World) (lo:Nat) (an:Option Value):Nat→SharedT→Thread→Option SharedT
 | 0,_,_=>none
 | m + 1,x,th=>bif through th then some x else bif stepOk lo an th then (stepT (denote B) p w x th).bind (fun y=>runT B p w lo an m y.1 y.2) else none
theorem zm5 {B:String→Option Builtin} {p:Program} {w:World} {lo:Nat} {an:Option Value} (m:Nat) :
  ∀ (x y:SharedT) (th:Thread),runT B p w lo an m x th=some y→topRun B p w lo an m x.abs th=some y.abs:=by
 induction m with
 | zero=>intro x y th z;cases z
 | succ m ih =>
  intro x y th z
  unfold runT at z;unfold topRun
  cases a:through th <;> rw [a] at z
  ·cases b:stepOk lo an th <;> rw [b] at z
   ·cases z
   ·obtain ⟨u,hu,z'⟩:=Option.bind_eq_some_iff.mp (show (stepT (denote B) p w x th).bind _=some y from z)
    dsimp only
    rw [stepT_spec (s':=u.1) (t':=u.2) hu]
    exact ih _ _ _ z'
  ·cases z;rfl
def grow:List Obj→BT→Nat→BT
 | [],T,_=>T
 | o :: l,T,n=>grow l (T.ins n o) (n + 1)
noncomputable def boot (w:World) (os:OsState):SharedT:=⟨grow (boot_heap w.params).objs.toList .nil 0,11,(boot_heap w.params).life,#[],boot_drawn,boot_toks,os⟩
noncomputable def ends (p:Program) (N:Nat) (w:World) (os:OsState):Option SharedT:=runT treeTable p w 11 (some (.ref 6)) N (boot w os) (topStub p)
theorem zh2 (w:World):((boot_heap w.params).isNs mainGlobals && (#[] : Array GenState).size == 0,(boot_heap w.params).objs.size,(boot_heap w.params).nsMap mainGlobals "__annotations__")=(true,11,some (Value.ref 6)):=by kernel_rfl
theorem boot_abs (w:World) (os:OsState):(boot w os).abs=⟨boot_heap w.params,#[],boot_drawn,boot_toks,os⟩:=by kernel_rfl
def fits (p:Program) (h:Heap) (y:SharedT):Bool:=staticsOk (importedModules p.main.body) h y.abs.heap && namesBound p y.abs.heap && gensDone y.abs && laidKept h y.abs.heap
theorem left {p q:Program} {loose:List Str} {Xt:Shared→Bool} {α:Type} {Yf:Shared→α} {Ya:World→α} {N:Nat} {g0:Bool}
  (plain:opening p=plainProg p.main.scope.names) (hN:Nat.ble 600 N=true) (fence:∀ s,fenceModules? p s=some s)
  (tests:∀ (w:World) (os:OsState),(ends p N w os).map (fits p (boot_heap w.params))=some true)
  (zkX:∀ (w:World) (os:OsState),(ends p N w os).map (fun y=>openSeen q loose (importedModules p.main.body) Xt g0 y.abs)=some (openGood q loose))
  (hook:∀ (w:World) (os:OsState),(ends p N w os).map (fun y=>Yf y.abs)=some (Ya w)) :
  LeftO p q loose Xt Yf Ya N g0:=by
 intro w
 obtain ⟨⟨hp,ge,dr,tk,os⟩,ho,hq⟩:=Option.map_eq_some_iff.mp (boot_open plain hN fence w)
 simp only [Prod.mk.injEq] at hq
 obtain ⟨rfl,rfl,rfl,rfl⟩:=hq
 have bs:=zh2 w
 simp only [Prod.mk.injEq] at bs
 obtain ⟨y,hy,a1⟩:=Option.map_eq_some_iff.mp (tests w os)
 have a2:=zkX w os
 have a3:=hook w os
 rw [hy] at a2 a3
 have rr:=zm5 _ _ _ _ hy
 rw [boot_abs] at rr
 have tt:topFrom treeTable p w N ⟨boot_heap w.params,#[],boot_drawn,boot_toks,os⟩ = some y.abs:=by
  unfold topFrom;dsimp only
  rw [bs.1,bs.2.1,bs.2.2,rr]
  show (match fits p (boot_heap w.params) y with | true=>some y.abs | false=>none)=some y.abs
  rw [a1]
 show ((fencedOpening treeTable p w N).bind (topFrom treeTable p w N)).map _=_
 rw [ho,Option.bind_some,tt,Option.map_some,Option.some.injEq,Prod.mk.injEq]
 exact ⟨Option.some.inj a2,Option.some.inj a3⟩
end HD
namespace HD
open PySem PySem.W PyProof.Rows
set_option maxRecDepth 100000
set_option maxHeartbeats 0
noncomputable def zlN (ds:List Nat) (l:List Stmt):List Stmt:=@List.rec Stmt (fun _=>Nat→List Stmt) (fun _=>[]) (fun s _ f i=>@Bool.rec (fun _=>List Stmt) (s :: f (Nat.succ i)) (f (Nat.succ i)) (ds.any (Nat.beq i))) l 0
noncomputable def kept:Program:={ PySem.Challenge.pw_rankpouch_k76_pouches_as_texts with main:={ PySem.Challenge.pw_rankpouch_k76_pouches_as_texts.main with body:=zlN [0,3,12] PySem.Challenge.pw_rankpouch_k76_pouches_as_texts.main.body } }
noncomputable def seenX (s:Shared):Bool:=xlAt kept [] s && recOk (RowW.records (OpenRow.toRowW (OpenLaw.row PySem.Challenge.rw_rankpouch_k76_pouches_as_texts))) s
theorem said:OpenLaw.wellSaid PySem.Challenge.rw_rankpouch_k76_pouches_as_texts=true:=by kernel_rfl
theorem plain:opening PySem.Challenge.pw_rankpouch_k76_pouches_as_texts=plainProg PySem.Challenge.pw_rankpouch_k76_pouches_as_texts.main.scope.names:=by kernel_rfl
theorem fence (s:Shared):fenceModules? PySem.Challenge.pw_rankpouch_k76_pouches_as_texts s=some s:=by kernel_rfl
theorem tests (w:World) (os:OsState):(ends PySem.Challenge.pw_rankpouch_k76_pouches_as_texts 1994 w os).map (fits PySem.Challenge.pw_rankpouch_k76_pouches_as_texts (boot_heap w.params))=some true:=by kernel_rfl
theorem zkX (w:World) (os:OsState):(ends PySem.Challenge.pw_rankpouch_k76_pouches_as_texts 1994 w os).map (fun y=>openSeen kept [] (importedModules PySem.Challenge.pw_rankpouch_k76_pouches_as_texts.main.body) seenX true y.abs)=some (openGood kept []):=by kernel_rfl
end HD
open PySem PySem.W PyProof.Rows
local macro_rules
 | `(tactic| o_head $H)=>`(tactic| refine holds_open (q:=HD.kept) (loose:=[]) (N:=1994) (Xt:=HD.seenX)
   (XP:=XL HD.kept []) (Yf:=Hook.obs $H) (Ya:=Hook.val $H) (YP:=Hook.says $H)
   ?_ (Hook.of $H) (Hook.keeps $H) (fun s e=>xl_of s (Bool.and_eq_true_iff.mp e).1) XL.keeps
   (by rfl) (by rfl) (by rfl) (fun s e=>recFacts_of (Bool.and_eq_true_iff.mp e).2)
   (by rfl) (by assumption) (by decide +kernel) ⟨rfl,rfl,rfl,rfl,rfl,by decide +kernel⟩ ?_ ?_)
set_option maxRecDepth 100000 in
set_option maxHeartbeats 0 in
theorem PySem.Challenge.cw_rankpouch_k76_pouches_as_texts_holds : PySem.Challenge.rw_rankpouch_k76_pouches_as_texts.Holds := by
 w_on
 refine holds_law HD.said fun said=>?_
 k_head
 ·clear said
  refine HD.left HD.plain (by kernel_rfl) HD.fence HD.tests HD.zkX ?_
  intro w os
  kernel_rfl
 ·clear said
  w_witness2
 clear said
 k_fill
 refine K76.walk (l:=PySem.Challenge.rw_rankpouch_k76_pouches_as_texts) rfl rfl (fun w h Y=>PySem.W.kIn_of Y) ?F
 case F =>
  intro w mg fa h KX G hmg
  refine' K76.all_mk KX G hmg ?a0 ?l0 ?c0 ?k0 ?a1 ?l1 ?c1 ?k1 ?a2 ?l2 ?c2 ?k2 ?a3 ?l3 ?c3 ?k3 ?a4 ?l4 ?c4 ?k4 ?a5 ?l5 ?c5 ?k5 ?a6 ?l6 ?c6 ?k6 ?a7 ?l7 ?c7 ?k7 ?a8 ?l8 ?c8 ?k8 ?a9 ?l9 ?c9 ?k9 ?a10 ?l10 ?c10 ?k10 ?a11 ?l11 ?c11 ?k11 ?a12 ?l12 ?c12 ?k12 ?a13 ?l13 ?c13 ?k13 ?a14 ?l14 ?c14 ?k14 ?a15 ?l15 ?c15 ?k15 ?zkZ ?zil ?zcW ?zkU ?zcA ?zkN ?zhy ?zkG ?zln ?zf6 ?zdi ?zkC ?zfM ?zls ?zbV
  (case a0=>k_is)
  (case l0=>k_is)
  (case c0=>k_is)
  (case k0=>k_is)
  (case a1=>k_is)
  (case l1=>k_is)
  (case c1=>k_is)
  (case k1=>k_is)
  (case a2=>k_is)
  (case l2=>k_is)
  (case c2=>k_is)
  (case k2=>k_is)
  (case a3=>k_is)
  (case l3=>k_is)
  (case c3=>k_is)
  (case k3=>k_is)
  (case a4=>k_is)
  (case l4=>k_is)
  (case c4=>k_is)
  (case k4=>k_is)
  (case a5=>k_is)
  (case l5=>k_is)
  (case c5=>k_is)
  (case k5=>k_is)
  (case a6=>k_is)
  (case l6=>k_is)
  (case c6=>k_is)
  (case k6=>k_is)
  (case a7=>k_is)
  (case l7=>k_is)
  (case c7=>k_is)
  (case k7=>k_is)
  (case a8=>k_is)
  (case l8=>k_is)
  (case c8=>k_is)
  (case k8=>k_is)
  (case a9=>k_is)
  (case l9=>k_is)
  (case c9=>k_is)
  (case k9=>k_is)
  (case a10=>k_is)
  (case l10=>k_is)
  (case c10=>k_is)
  (case k10=>k_is)
  (case a11=>k_is)
  (case l11=>k_is)
  (case c11=>k_is)
  (case k11=>k_is)
  (case a12=>k_is)
  (case l12=>k_is)
  (case c12=>k_is)
  (case k12=>k_is)
  (case a13=>k_is)
  (case l13=>k_is)
  (case c13=>k_is)
  (case k13=>k_is)
  (case a14=>k_is)
  (case l14=>k_is)
  (case c14=>k_is)
  (case k14=>k_is)
  (case a15=>k_is)
  (case l15=>k_is)
  (case c15=>k_is)
  (case k15=>k_is)
  (case zkZ=>k_is)
  (case zil=>k_is)
  (case zcW=>k_is)
  (case zkU=>k_is)
  (case zcA=>k_is)
  (case zkN=>k_is)
  (case zhy=>k_is)
  (case zkG=>k_is)
  (case zln=>k_is)
  (case zf6=>k_is)
  (case zdi=>k_is)
  (case zkC=>k_is)
  (case zfM=>k_is)
  (case zls=>k_is)
  (case zbV=>k_is)
