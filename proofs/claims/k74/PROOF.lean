import PyProof.Rows.All
import KE.KDictList
import KE.KItemsList
import KE.KRevIter
import KE.KSortTup
import KE.KUnpack
import PyProof.Draws
import PyProof.ExcClass3
import PyProof.ExcInit
import PyProof.InstStoreFacts
import PyProof.MaxThree
import PyProof.P3In
import PyProof.Rows.FStr
import Wide.All
import OpenK.AllK
import Wide.FinOn
import Lean
import PyProof.EqAt
import PyProof.EqKinds
import PyProof.TupleCall
import PySem.Challenge.RW_rankpouch_k74_sums_of_the_last
set_option Elab.async false
set_option linter.all false
set_option maxRecDepth 100000
namespace L2
open PySem PySem.Spec PyProof.Rows
abbrev Key:=Sum Int Str
def zm1:Key→Value→Bool
 | .inl k,v=>Value.isInt k v
 | .inr x,v=>Value.isStrOf x v
def keyH (w:World):Key→Int
 | .inl k=>hashInt k
 | .inr x=>hashStr w x
theorem zaQ:∀ {k:Key} {v:Value},zm1 k v=true→(∃ i t,k=Sum.inl i∧v=Value.int i t)∨(∃ x t,k=Sum.inr x∧v=Value.str x t)
 | .inl i,v,h=>by
  obtain ⟨t,e⟩:=Value.isInt_shape (k:=i) (v:=v) h
  exact .inl ⟨i,t,rfl,e⟩
 | .inr x,v,h=>by
  obtain ⟨t,e⟩:=Value.isStrOf_shape (x:=x) (v:=v) h
  exact .inr ⟨x,t,rfl,e⟩
theorem zmJ (a b:Int):decide ((Sum.inl a:Key)=Sum.inl b)=(a == b):=by
 by_cases e:a=b
 ·subst e;simp
 ·have h:¬ (Sum.inl a:Key)=Sum.inl b:=fun q=>e (Sum.inl.inj q)
  rw [decide_eq_false h]
  exact (beq_eq_false_iff_ne.mpr e).symm
theorem znQ (a b:Str):decide ((Sum.inr a:Key)=Sum.inr b)=decide (a=b):=by
 by_cases e:a=b
 ·subst e;simp
 ·have h:¬ (Sum.inr a:Key)=Sum.inr b:=fun q=>e (Sum.inr.inj q)
  rw [decide_eq_false h,decide_eq_false e]
theorem znA (a:Int) (b:Str):decide ((Sum.inl a:Key)=Sum.inr b)=false:=decide_eq_false (fun q=>nomatch q)
theorem zmC (a:Str) (b:Int):decide ((Sum.inr a:Key)=Sum.inl b)=false:=decide_eq_false (fun q=>nomatch q)
def ziA (prog:Program) (w:World):PySem.KeyKind prog w Key where
 is:=zm1
 hash:=keyH w
 inj:=fun v a b ha hb=>by
  rcases zaQ ha with ⟨i,t,rfl,rfl⟩ | ⟨x,t,rfl,rfl⟩
  ·rcases zaQ hb with ⟨j,u,rfl,e⟩ | ⟨y,u,rfl,e⟩
   ·injection e with e1 _;rw [e1]
   ·exact nomatch e
  ·rcases zaQ hb with ⟨j,u,rfl,e⟩ | ⟨y,u,rfl,e⟩
   ·exact nomatch e
   ·injection e with e1 _;rw [e1]
 byValue:=fun k v h=>by
  rcases zaQ h with ⟨i,t,rfl,rfl⟩ | ⟨x,t,rfl,rfl⟩ <;> rfl
 pyHash:=fun hv h=>by
  rcases zaQ hv with ⟨i,t,rfl,rfl⟩ | ⟨x,t,rfl,rfl⟩
  ·exact wpAny_pyHash_int h
  ·exact wpAny_pyHash_str h
 eqBool:=fun hu hv h=>by
  rcases zaQ hu with ⟨i,t,rfl,rfl⟩ | ⟨x,t,rfl,rfl⟩
  ·rcases zaQ hv with ⟨j,u,rfl,rfl⟩ | ⟨y,u,rfl,rfl⟩
   ·rw [zmJ] at h;exact wpAny_eqBool_int h
   ·rw [znA] at h;exact SeqAt.EqAt.int_str i t y u _ _ _ _ h
  ·rcases zaQ hv with ⟨j,u,rfl,rfl⟩ | ⟨y,u,rfl,rfl⟩
   ·rw [zmC] at h;exact SeqAt.EqAt.str_int x t j u _ _ _ _ h
   ·rw [znQ] at h;exact wpAny_eqBool_str h
 «strs»:=fun k x t v h=>by
  rcases zaQ h with ⟨i,u,rfl,e⟩ | ⟨y,u,rfl,e⟩
  ·exact nomatch e
  ·injection e with e1 _
   subst e1
   cases v <;> rfl
end L2
namespace L2
open PySem PySem.Spec PyProof.Rows
inductive V where
 | non | bl (b:Bool) | int (i:Int) | str (x:Str) | byt (b:Array UInt8) | flt (b:UInt64) | ref (a:Addr) | ty (n:String)
 deriving DecidableEq
def RelV:V→Value→Prop
 | .non,u=>u=Value.none
 | .bl b,u=>u=Value.bool b
 | .int i,u=>∃ t,u=Value.int i t
 | .str x,u=>∃ t,u=Value.str x t
 | .byt b,u=>∃ t,u=Value.bytes b t
 | .flt b,u=>∃ t,u=Value.float b t
 | .ref a,u=>u=Value.ref a
 | .ty n,u=>u=Value.type n
abbrev Vals:List V→List Value→Prop:=Paired RelV
theorem Vals.length {xs:List V} {us:List Value} (r:Vals xs us):xs.length=us.length:=Paired.length r
theorem Vals.get:∀ {xs:List V} {us:List Value} {i:Nat} {x:V},Vals xs us→xs[i]? = some x→∃ u,us[i]? = some u∧RelV x u
 | _,_,_,_, .nil,e=>by simp at e
 | _,_,0,_, .cons r _,e=>by simp at e;subst e;exact ⟨_,rfl,r⟩
 | _,_,i + 1,x, .cons _ t,e=>by
  obtain ⟨u,h1,h2⟩:=Vals.get (i:=i) (x:=x) t (by simpa using e)
  exact ⟨u,by simpa using h1,h2⟩
theorem Vals.set {x:V} {u:Value} (r:RelV x u):∀ {xs:List V} {us:List Value} (i:Nat),Vals xs us→Vals (xs.set i x) (us.set i u)
 | _,_,_, .nil => .nil
 | _,_,0, .cons _ t => .cons r t
 | _,_,i + 1, .cons q t => .cons q (Vals.set r i t)
theorem Vals.append:∀ {xs ys:List V} {us ws:List Value},Vals xs us→Vals ys ws→Vals (xs ++ ys) (us ++ ws)
 | _,_,_,_, .nil,s=>s
 | _,_,_,_, .cons r t,s => .cons r (Vals.append t s)
theorem Vals.take:∀ {xs:List V} {us:List Value} (n:Nat),Vals xs us→Vals (xs.take n) (us.take n)
 | _,_,0,_ => .nil
 | _,_,_ + 1, .nil => .nil
 | _,_,n + 1, .cons r t => .cons r (Vals.take n t)
theorem Vals.drop:∀ {xs:List V} {us:List Value} (n:Nat),Vals xs us→Vals (xs.drop n) (us.drop n)
 | _,_,0,r=>r
 | _,_,_ + 1, .nil => .nil
 | _,_,n + 1, .cons _ t=>Vals.drop n t
def RelO:Option V→Option Value→Prop
 | some v,some u=>RelV v u
 | none,none=>True
 | _,_=>False
def KV {κ:Type}:List (κ × V)→List (κ × Value)→Prop:=Paired fun (p:κ × V) (q:κ × Value)=>p.1=q.1∧RelV p.2 q.2
def kV:Key→V
 | .inl i => .int i
 | .inr x => .str x
inductive HO where
 | lst (xs:List V)
 | tup (xs:List V)
 | dK (kvs:List (Key × V)) | dT (kvs:List (List Key × V))
 | set (S:Int→Bool) (n:Nat)
 | ins (C dx:Addr) (fs:List (Str × V))
 | own (x:Addr)
 | xd (fs:List (Str × V))
 | met (f x:Addr)
 | rng (lo hi:Int)
 | frz (o:Obj) (u:HO)
 | tbl (ps:Array Value)
 | ext (φ:Heap→Prop)
abbrev Hp:=Addr→Option HO
def upd (H:Hp) (a:Addr) (o:HO):Hp:=fun b=>if b=a then some o else H b
theorem zaw {H:Hp} {a:Addr} {o:HO}:upd H a o a=some o:=by unfold upd;rw [if_pos rfl]
theorem zao {H:Hp} {a b:Addr} {o:HO} (h:b ≠ a):upd H a o b=H b:=by unfold upd;rw [if_neg h]
theorem zmT {H:Hp} {a b:Addr} {o u:HO} (h:H a=some o) (h':H b=some u) (d:o ≠ u):a ≠ b:=by
 intro e;subst e;rw [h] at h';exact d (Option.some.inj h')
theorem zaO {H:Hp} {a b:Addr} {o:HO} (h:H a=some o) (h':H b=none):a ≠ b:=by
 intro e;subst e;rw [h] at h';cases h'
section
variable (P:Program) (w:World)
def zco (H:Hp) (h:Heap) (a:Addr):HO→Prop
 | .lst xs=>xs.length ≤ sizeLine∧∃ (its:List Value) (n:Nat),Vals xs its∧h.get? a=some { cls := .type "list",data := .seq its.toArray n }
 | .tup xs=>xs.length ≤ sizeLine∧∃ its:List Value,Vals xs its∧IsTup h a its.toArray
 | .dK kvs=>kvs.length ≤ sizeLine∧(a == sysModules)=false∧∃ vs,KV kvs vs∧h.DictOf (ziA P w) a vs
 | .dT kvs=>kvs.length ≤ sizeLine∧(a == sysModules)=false∧∃ xs:List (List Key × Addr × Value),
   Paired (fun (p:List Key × V) (q:List Key × Addr × Value)=>p.1=q.1∧H q.2.1=some (.tup (p.1.map kV))∧RelV p.2 q.2.2) kvs xs ∧
   ∃ o es ep,h.get? a=some o∧o.ExactDict∧o.data = .dict es ep∧es.toList=xs.map (entryOfKey (tupleKind (ziA P w)))∧(xs.map (·.1)).Nodup
 | .set S n=>h.SetOf (intKind P w) a S n
 | .ins C dx fs=>H dx=some (.own a)∧fs.length ≤ 1000∧dx ≠ a∧h.get? a=some (PySem.W.instObj C dx) ∧
   ∃ mA,h.Ns1 dx mA∧(∀ f,RelO (fs.lookup f) (mA f))∧PySem.Within mA (fs.map (·.1))
 | .own _=>∃ o,h.get? a=some o
 | .xd fs=>∃ mA,h.Ns1 a mA∧∀ f,RelO (fs.lookup f) (mA f)
 | .rng lo hi=>∃ t u v,h.get? a=some { cls := .type "range",data := .fields #[.int lo t, .int hi u, .int 1 v] }
 | .frz o u=>h.get? a=some o∧zco H h a u
 | .tbl ps=>h.get? a=some { cls := .none,data := .fields ps }
 | .met f x=>h.get? a=some (PySem.W.methodObj (.ref f) (.ref x))
 | .ext φ=>φ h∧(∃ o,h.get? a=some o)∧∀ h1 h2:Heap,φ h1→(∀ o,h1.get? a=some o→h2.get? a=some o)→φ h2
def HOk (H:Hp) (h:Heap):Prop:=∀ a o,H a=some o→zco P w H h a o
end
section
variable {P:Program} {w:World} {H H':Hp} {h h':Heap} {a:Addr} {o:HO}
theorem zco.lt (x:zco P w H h a o):a < h.objs.size:=by
 cases o with
 | lst xs=>obtain ⟨_,_,_,_,e⟩:=x;exact Heap.lt_size e
 | tup xs=>obtain ⟨_,_,_,p⟩:=x;exact p.lt
 | dK kvs=>obtain ⟨_,_,_,_,o,_,_,e,_⟩:=x;exact Heap.lt_size e
 | dT kvs=>obtain ⟨_,_,_,_,o,_,_,e,_⟩:=x;exact Heap.lt_size e
 | set S n=>obtain ⟨o,_,_,_,e,_⟩:=x;exact Heap.lt_size e
 | ins C dx fs=>obtain ⟨_,_,_,e,_⟩:=x;exact Heap.lt_size e
 | own y=>obtain ⟨_,e⟩:=x;exact Heap.lt_size e
 | xd fs=>obtain ⟨_,⟨_,_,_,e,_⟩,_⟩:=x;exact Heap.lt_size e
 | rng lo hi=>obtain ⟨_,_,_,e⟩:=x;exact Heap.lt_size e
 | frz ob u=>obtain ⟨e,_⟩:=x;exact Heap.lt_size e
 | tbl ps=>exact Heap.lt_size (show h.get? a=some _ from x)
 | met f y=>exact Heap.lt_size (show h.get? a=some _ from x)
 | ext φ=>obtain ⟨_,⟨_,e⟩,_⟩:=x;exact Heap.lt_size e
theorem Paired.mapP {α β:Type} {F G:α→β→Prop}:∀ {l₁:List α} {l₂:List β},Paired F l₁ l₂→(∀ a b,F a b→G a b)→Paired G l₁ l₂
 | _,_, .nil,_ => .nil
 | _,_, .cons r t,f => .cons (f _ _ r) (Paired.mapP t f)
theorem zco.stay (x:zco P w H h a o) (k:∀ b u,(b=a∨H b=some (.own a))→h.get? b=some u→h'.get? b=some u)
  (ho:∀ b,H b=some (.own a)→H' b=some (.own a)) (ht:∀ b xs,H b=some (.tup xs)→H' b=some (.tup xs)):zco P w H' h' a o:=by
 induction o with
 | lst xs=>obtain ⟨z,its,n,r,e⟩:=x;exact ⟨z,its,n,r,k _ _ (.inl rfl) e⟩
 | tup xs=>obtain ⟨z,its,r,ob,e,c⟩:=x;exact ⟨z,its,r,ob,k _ _ (.inl rfl) e,c⟩
 | dK kvs=>obtain ⟨z,y,vs,r,ob,es,ep,e,c⟩:=x;exact ⟨z,y,vs,r,ob,es,ep,k _ _ (.inl rfl) e,c⟩
 | dT kvs =>
  obtain ⟨z,y,xs,r,ob,es,ep,e,c⟩:=x
  exact ⟨z,y,xs,Paired.mapP r fun p q z=>⟨z.1,ht _ _ z.2.1,z.2.2⟩,ob,es,ep,k _ _ (.inl rfl) e,c⟩
 | set S n=>obtain ⟨ob,es,ep,t,e,c⟩:=x;exact ⟨ob,es,ep,t,k _ _ (.inl rfl) e,c⟩
 | ins C dx fs =>
  obtain ⟨d,z,ne,e,mA,⟨od,es,ep,e2,c⟩,r⟩:=x
  exact ⟨ho _ d,z,ne,k _ _ (.inl rfl) e,mA,⟨od,es,ep,k _ _ (.inr d) e2,c⟩,r⟩
 | own y=>obtain ⟨ob,e⟩:=x;exact ⟨ob,k _ _ (.inl rfl) e⟩
 | xd fs=>obtain ⟨mA,⟨od,es,ep,e,c⟩,r⟩:=x;exact ⟨mA,⟨od,es,ep,k _ _ (.inl rfl) e,c⟩,r⟩
 | rng lo hi=>obtain ⟨t,u,v,e⟩:=x;exact ⟨t,u,v,k _ _ (.inl rfl) e⟩
 | frz ob u ih=>obtain ⟨e,q⟩:=x;exact ⟨k _ _ (.inl rfl) e,ih q⟩
 | tbl ps =>
  have e:h.get? a=some { cls := .none,data := .fields ps }:=x
  show h'.get? a=some { cls := .none,data := .fields ps }
  exact k a _ (.inl rfl) e
 | met f y =>
  have e:h.get? a=some (PySem.W.methodObj (.ref f) (.ref y)):=x
  show h'.get? a=some (PySem.W.methodObj (.ref f) (.ref y))
  exact k a _ (.inl rfl) e
 | ext φ=>obtain ⟨p,⟨o,e⟩,st⟩:=x;exact ⟨st _ _ p fun o q=>k _ _ (.inl rfl) q,⟨o,k _ _ (.inl rfl) e⟩,st⟩
theorem HOk.lt (x:HOk P w H h) (e:H a=some o):a < h.objs.size:=(x a o e).lt
theorem HOk.fresh (x:HOk P w H h) (e:h.objs.size ≤ a):H a=none:=by
 cases q:H a with
 | none=>rfl
 | some u=>exact absurd (Nat.lt_of_lt_of_le (x.lt q) e) (Nat.lt_irrefl _)
theorem HOk.kept (x:HOk P w H h) (k:∀ b u,h.get? b=some u→h'.get? b=some u):HOk P w H h':=fun a o e =>
 (x a o e).stay (fun b u _ q=>k b u q) (fun _ q=>q) fun _ _ q=>q
theorem HOk.laid (x:HOk P w H h) (k:∀ b u,h.get? b=some u→h'.get? b=some u) (hp:h.objs.size ≤ a) (new:zco P w (upd H a o) h' a o):HOk P w (upd H a o) h':=fun b u e=>by
 have hn:=x.fresh hp
 by_cases hb:b=a
 ·subst hb;rw [zaw] at e;cases e;exact new
 ·rw [zao hb] at e
  exact (x b u e).stay (fun c v _ q=>k c v q) (fun c q=>by rw [zao (zaO q hn)];exact q) fun c xs q=>by rw [zao (zaO q hn)];exact q
end
def Rd (H:Hp) (a:Addr) (u:HO):Prop:=H a=some u∨∃ o,H a=some (.frz o u)
theorem Rd.of {H:Hp} {a:Addr} {u:HO} (h:H a=some u):Rd H a u := .inl h
theorem Rd.ok {P:Program} {w:World} {H:Hp} {h:Heap} {a:Addr} {u:HO} (r:Rd H a u) (x:HOk P w H h):zco P w H h a u:=by
 rcases r with r | ⟨o,r⟩
 ·exact x a u r
 ·obtain ⟨_,q⟩:=x a _ r
  exact q
def Mut:Option HO→Prop
 | some (.lst _)=>True
 | some (.dK _)=>True
 | some (.dT _)=>True
 | some (.set _ _)=>True
 | some (.ins _ _ _)=>True
 | some (.ext _)=>True
 | _=>False
section
variable {P:Program} {w:World} {H:Hp} {h h':Heap} {x e:Addr} {o':HO}
theorem HOk.write (ok:HOk P w H h) (mu:Mut (H x)) (he:e=x∨H e=some (.own x)) (k:∀ b u,b ≠ e→h.get? b=some u→h'.get? b=some u) (heo:∃ u,h'.get? e=some u)
  (new:zco P w (upd H x o') h' x o'):HOk P w (upd H x o') h':=fun b u q=>by
 have nown:∀ c y,H c=some (.own y)→c ≠ x:=fun c y r z=>by subst z;rw [r] at mu;exact mu
 have ntup:∀ c xs,H c=some (.tup xs)→c ≠ x:=fun c xs r z=>by subst z;rw [r] at mu;exact mu
 by_cases hb:b=x
 ·subst hb;rw [zaw] at q;cases q;exact new
 ·rw [zao hb] at q
  by_cases hbe:b=e
  ·have q':H b=some (.own x):=by
    rcases he with z | z
    ·exact absurd (hbe.trans z) hb
    ·rw [hbe];exact z
   rw [q] at q';cases q'
   obtain ⟨v,hv⟩:=heo
   exact ⟨v,by rw [hbe];exact hv⟩
  ·refine (ok b u q).stay (fun c v hc r=>k c v ?_ r) (fun c r=>by rw [zao (nown c b r)];exact r) fun c xs r=>by rw [zao (ntup c xs r)];exact r
   rcases hc with rfl | hc
   ·exact hbe
   ·rintro rfl
    rcases he with z | z
    ·exact nown c b hc z
    ·rw [hc] at z;cases z;exact hb rfl
end
structure Un (fs ex:List Addr) (H H':Hp) (h h':Heap):Prop where
 keep:∀ b o,h.get? b=some o→H b=none→b ∉ fs→b ∉ ex→h'.get? b=some o
 slot:∀ b o,h.get? b=some o→H b=none→b ∈ fs→b ∉ ex→∃ sl,h'.get? b=some { o with slots:=sl }
 free:∀ b o,h.get? b=some o→H b=none→b ∉ ex→H' b=none
 there:∀ b o,h.get? b=some o→b ∉ ex→∃ o',h'.get? b=some o'
 tups:∀ b xs,H b=some (.tup xs)→H' b=some (.tup xs)
 frzs:∀ b o u,H b=some (.frz o u)→H' b=some (.frz o u)
 tbls:∀ b ps,H b=some (.tbl ps)→∃ more,H' b=some (.tbl (ps ++ more))
section
variable {fs fs' ex ex':List Addr} {H H1 H2:Hp} {h h1 h2 h':Heap} {a x e:Addr} {o:HO}
theorem Un.any (u:Un fs ex H H1 h h1) {b:Addr} {ob:Obj} (q:h.get? b=some ob) (n:H b=none) (hx:b ∉ ex):∃ sl,h1.get? b=some { ob with slots:=sl }:=by
 by_cases hb:b ∈ fs
 ·exact u.slot b ob q n hb hx
 ·exact ⟨ob.slots,u.keep b ob q n hb hx⟩
theorem Un.trans (a:Un fs ex H H1 h h1) (b:Un fs ex H1 H2 h1 h2):Un fs ex H H2 h h2 where
 keep:=fun c ob q n hc hx=>b.keep c ob (a.keep c ob q n hc hx) (a.free c ob q n hx) hc hx
 slot:=fun c ob q n hc hx=>by
  obtain ⟨sl,e1⟩:=a.slot c ob q n hc hx
  obtain ⟨sl',e2⟩:=b.slot c _ e1 (a.free c ob q n hx) hc hx
  exact ⟨sl',e2⟩
 free:=fun c ob q n hx=>by
  obtain ⟨o',e1⟩:=a.there c ob q hx
  exact b.free c o' e1 (a.free c ob q n hx) hx
 there:=fun c ob q hx=>by
  obtain ⟨o',e1⟩:=a.there c ob q hx
  exact b.there c o' e1 hx
 tups:=fun c xs q=>b.tups c xs (a.tups c xs q)
 frzs:=fun c ob xs q=>b.frzs c ob xs (a.frzs c ob xs q)
 tbls:=fun c ps q=>by
  obtain ⟨m1,e1⟩:=a.tbls c ps q
  obtain ⟨m2,e2⟩:=b.tbls c _ e1
  exact ⟨m1 ++ m2,by rw [e2,Array.append_assoc]⟩
theorem Un.kept (k:∀ b u,h.get? b=some u→h'.get? b=some u):Un fs ex H H h h' :=
 ⟨fun b ob q _ _ _=>k b ob q,fun b ob q _ _ _=>⟨ob.slots,k b ob q⟩,fun _ _ _ n _=>n,fun b ob q _=>⟨ob,k b ob q⟩,fun _ _ q=>q,fun _ _ _ q=>q,fun _ ps q=>⟨#[],by rw [q];simp⟩⟩
theorem Un.refl:Un fs ex H H h h:=Un.kept fun _ _ q=>q
theorem Un.laid (k:∀ b u,h.get? b=some u→h'.get? b=some u) (hp:h.objs.size ≤ a) (hn:H a=none):Un fs ex H (upd H a o) h h' where
 keep:=fun b u q _ _ _=>k b u q
 slot:=fun b u q _ _ _=>⟨u.slots,k b u q⟩
 free:=fun b u q n _=>by rw [zao (Nat.ne_of_lt (Nat.lt_of_lt_of_le (Heap.lt_size q) hp))];exact n
 there:=fun b u q _=>⟨u,k b u q⟩
 tups:=fun b xs q=>by rw [zao (zaO q hn)];exact q
 frzs:=fun b u xs q=>by rw [zao (zaO q hn)];exact q
 tbls:=fun b ps q=>⟨#[],by rw [zao (zaO q hn),q];simp⟩
theorem Un.write (mu:Mut (H x)) (he:e=x∨H e=some (.own x)) (k:∀ b u,b ≠ e→h.get? b=some u→h'.get? b=some u) (heo:∃ u,h'.get? e=some u):Un fs ex H (upd H x o) h h':=by
 have hx:∀ b,H b=none→b ≠ x:=fun b n z=>by subst z;rw [n] at mu;exact mu
 have hb:∀ b,H b=none→b ≠ e:=fun b n z=>by
  subst z
  rcases he with r | r
  ·exact hx b n r
  ·rw [n] at r;cases r
 have hm:∀ b u,H b=some u→¬ Mut (some u)→b ≠ x:=fun b u q nm z=>by subst z;rw [q] at mu;exact nm mu
 refine ⟨fun b u q n _ _=>k b u (hb b n) q,fun b u q n _ _=>⟨u.slots,k b u (hb b n) q⟩,fun b u q n _=>by rw [zao (hx b n)];exact n,fun b u q _=>?_,
  fun b xs q=>by rw [zao (hm b _ q fun z=>z)];exact q,fun b u xs q=>by rw [zao (hm b _ q fun z=>z)];exact q,fun b ps q=>⟨#[],by rw [zao (hm b _ q fun z=>z),q];simp⟩⟩
 by_cases hbe:b=e
 ·subst hbe;exact heo
 ·exact ⟨u,k b u hbe q⟩
theorem Un.mono (u:Un fs ex H H1 h h1) (hs:∀ b ∈ fs,b ∈ fs') (hx:∀ b ∈ ex,b ∈ ex'):Un fs' ex' H H1 h h1 :=
 ⟨fun b ob q n hb he=>u.keep b ob q n (fun z=>hb (hs b z)) fun z=>he (hx b z),fun _ _ q n _ he=>u.any q n fun z=>he (hx _ z),fun b ob q n he=>u.free b ob q n fun z=>he (hx b z),fun b ob q he=>u.there b ob q fun z=>he (hx b z),u.tups,u.frzs,u.tbls⟩
end
def trk (h:Heap) (H:Hp):List Addr:=(List.range h.objs.size).filter fun a=>(H a).isSome
def hidT (h:Heap) (H:Hp):Heap:=PySem.W.hideAll h (trk h H)
theorem ziT (h:Heap) (H:Hp):(hidT h H).objs.size=h.objs.size:=PySem.W.hideAll_size _ _
theorem zjS {h:Heap} {H:Hp} {b:Addr} {o:Obj} (e:h.get? b=some o) (n:H b=none):(hidT h H).get? b=some o :=
 PySem.W.hideAll_get _ e fun hm=>by
  have q:(H b).isSome=true:=(List.mem_filter.mp hm).2
  rw [n] at q;simp at q
theorem zkV {h:Heap} {H:Hp} {b:Addr} {o:Obj} (e:(hidT h H).get? b=some o):h.get? b=some o∧H b=none:=by
 have e':h.get? b=some o:=PySem.W.of_hideAll (trk h H) e
 refine ⟨e',?_⟩
 cases q:H b with
 | none=>rfl
 | some x =>
  have hm:b ∈ trk h H:=List.mem_filter.mpr ⟨List.mem_range.mpr (Heap.lt_size e'),by simp [q]⟩
  have z:(hidT h H).get? b=none:=PySem.W.hideAll_none (trk h H) hm
  rw [z] at e;cases e
def zlv (g h:Heap) (L:Addr):List (Addr × Obj):=(List.range h.objs.size).filterMap fun a=>if a=L∨(g.get? a).isSome=true then none else (h.get? a).map fun o=>(a,o)
def rest (g h:Heap) (L d:Addr):List (Addr × Obj):=(zlv g h L).filter fun p=>decide (p.1 ≠ d)
end L2
namespace L2
open PySem PySem.Spec PyProof.Rows
structure Mod (K:PySem.W.Frag) (mg:Str→Option Value) (base:Heap):Prop where
 kin:K.In base
 glob:base.Ns mainGlobals mg
 blt:∃ mb,base.Ns builtinsNs mb∧∀ x:Str,x ≠ "__name__"→mb x=bootBuiltins x
 nolimit:base.NoLimit
structure Cx where
 prog:Program
 w:World
 K:PySem.W.Frag
 mg:Str→Option Value
 base:Heap
 A:Around
 N:List Str
 s₀:Shared
 H₀:Hp
 env:Env
 outer:List Env
 stack:List Env
 ex:List Addr
 fn:Str→Bool
 calm:Bool
 pn:List (Addr × Obj)
 xe:Value→Shared→Prop
def frs (l:List Env):List Addr:=l.filterMap (·.frame)
abbrev Cx.fs (X:Cx):List Addr:=frs X.outer
def Vis (sc:Scope) (x:Str):Prop:=sc.names.lookup x=some .local∨sc.names.lookup x=some .cell∨sc.names.lookup x=some .free
def Loc (sc:Scope) (x:Str):Prop:=sc.names.lookup x=some .local∨sc.names.lookup x=some .cell
def Look (env:Env) (h:Heap) (m:Str→Option Value) (x:Str) (u:Value):Prop :=
 (env.kindOf x=some .local∧m x=some u)∨((env.kindOf x=some .cell∨env.kindOf x=some .free)∧∃ c,env.cells.lookup x=some c∧h.IsCell c (some u))
structure Cx.Ok (X:Cx):Prop where
 mod:Mod X.K X.mg X.base
 kind:X.env.scope.kind = .function
 glob:X.env.globals=mainGlobals
 blt:X.env.builtins=builtinsNs
 above:X.s₀.heap.objs.size ≤ X.env.locals
 inj:∀ x y c,X.env.cells.lookup x=some c→X.env.cells.lookup y=some c→x=y
 has:∀ x,(X.env.kindOf x=some .cell∨X.env.kindOf x=some .free)→∃ c,X.env.cells.lookup x=some c
 cab:∀ x c,X.fn x=true→X.env.cells.lookup x=some c→X.s₀.heap.objs.size ≤ c
 hd:X.calm=true→X.A.handled=none
 frames:X.A.frames=some X.stack
 stk:X.stack=X.outer∨(X.stack=X.env :: X.outer∧X.env.frame=some X.env.locals)
 exf:∀ b ∈ X.ex,b ≠ X.env.locals∧∀ x c,X.env.cells.lookup x=some c→c ≠ b
 bs:∀ b o,X.base.get? b=some o→X.s₀.heap.get? b=some o∧X.H₀ b=none
 bsz:X.base.objs.size ≤ X.s₀.heap.objs.size
 noex:∀ b o,X.base.get? b=some o→b ∉ X.ex
 exfs:∀ b ∈ X.ex,b ∉ X.fs
 funs:X.s₀.heap.FunFrames X.base X.outer
 frf:∀ b ∈ X.fs,X.H₀ b=none
structure Inv (X:Cx) (pins:List (Addr × Obj)) (σ:List (Option V)) (H:Hp) (s:Shared):Prop where
 ok:X.Ok
 os:s.os=X.s₀.os
 bare:AllBare s.gens
 base:Un X.fs X.ex X.H₀ H X.s₀.heap s.heap
 loc:∃ m,s.heap.Ns X.env.locals m∧∀ (i:Nat) (x:Str) (v:V),X.N[i]? = some x→σ[i]? = some (some v)→Vis X.env.scope x→∃ u,RelV v u∧Look X.env s.heap m x u
 cell:∀ x c,X.env.cells.lookup x=some c→∃ v,s.heap.IsCell c v
 free:H X.env.locals=none
 freeC:∀ x c,X.env.cells.lookup x=some c→H c=none
 pin:∀ p ∈ X.pn ++ pins,s.heap.get? p.1=some p.2∧H p.1=none∧p.1 ≠ X.env.locals∧p.1 ∉ X.fs∧∀ v,p.2.data ≠ .cell v
 hok:HOk X.prog X.w H s.heap
 len:σ.length=X.N.length
section
variable {X:Cx} {pins:List (Addr × Obj)} {σ:List (Option V)} {H H':Hp} {s:Shared} {h':Heap}
theorem Cx.Ok.nofr (ok:X.Ok) {b:Addr} {o:Obj} (e:X.base.get? b=some o):b ∉ X.fs:=fun hb=>by
 have:=(ok.funs.mem hb).1
 rw [e] at this;cases this
theorem Inv.bs (I:Inv X pins σ H s):∀ b o,X.base.get? b=some o→s.heap.get? b=some o∧H b=none:=fun b o e =>
 ⟨I.base.keep b o (I.ok.bs b o e).1 (I.ok.bs b o e).2 (I.ok.nofr e) (I.ok.noex b o e),I.base.free b o (I.ok.bs b o e).1 (I.ok.bs b o e).2 (I.ok.noex b o e)⟩
theorem Inv.bk (I:Inv X pins σ H s):∀ b o,X.base.get? b=some o→s.heap.get? b=some o:=fun b o e=>(I.bs b o e).1
theorem Inv.mod (I:Inv X pins σ H s):Mod X.K X.mg X.base:=I.ok.mod
theorem Inv.kIn (I:Inv X pins σ H s):X.K.In s.heap:=I.ok.mod.kin.keeps I.bk
theorem Inv.nolimit (I:Inv X pins σ H s):s.heap.NoLimit:=I.ok.mod.nolimit.keeps I.bk
theorem Inv.lt (I:Inv X pins σ H s):X.env.locals < s.heap.objs.size:=let ⟨_,hn,_⟩:=I.loc;hn.lt
theorem Inv.sz (I:Inv X pins σ H s):X.s₀.heap.objs.size ≤ s.heap.objs.size:=Nat.le_trans I.ok.above (Nat.le_of_lt I.lt)
theorem Inv.nofs (I:Inv X pins σ H s) {a:Addr} (h:s.heap.objs.size ≤ a):a ∉ X.fs:=fun hb=>by
 obtain ⟨_,o,ho,_⟩:=I.ok.funs.mem hb
 exact absurd (Nat.lt_of_lt_of_le (Heap.lt_size ho) (Nat.le_trans I.sz h)) (Nat.lt_irrefl _)
theorem Inv.cne (I:Inv X pins σ H s):∀ x c,X.env.cells.lookup x=some c→c ≠ X.env.locals:=fun x c e z=>by
 obtain ⟨v,o,ho,hd⟩:=I.cell x c e
 obtain ⟨m,⟨o',es,ep,ho',hd',_⟩,_⟩:=I.loc
 rw [z,ho'] at ho;cases ho;rw [hd'] at hd;cases hd
theorem Inv.funs (I:Inv X pins σ H s):s.heap.FunFrames X.base X.outer:=by
 have all:∀ (l:List Env),(∀ b ∈ frs l,b ∈ X.fs)→X.s₀.heap.FunFrames X.base l→s.heap.FunFrames X.base l:=by
  intro l
  induction l with
  | nil=>intro _ _;trivial
  | cons env r ih =>
   intro hs hl
   obtain ⟨hk,⟨L,o,hf,hn,ho,hd⟩,hr⟩:=hl
   have hL:L ∈ X.fs:=hs L (by unfold frs;rw [List.filterMap_cons,hf];exact List.mem_cons_self)
   obtain ⟨sl,e⟩:=I.base.slot L o ho (I.ok.frf L hL) hL fun z=>I.ok.exfs L z hL
   exact ⟨hk,⟨L,_,hf,hn,e,hd⟩,ih (fun b hb=>hs b (by unfold frs;rw [List.filterMap_cons,hf];exact List.mem_cons_of_mem _ hb)) hr⟩
 exact all X.outer (fun _ hb=>hb) I.ok.funs
theorem Inv.stack (I:Inv X pins σ H s):s.heap.FunFrames X.base X.stack:=by
 rcases I.ok.stk with e | ⟨e,hf⟩
 ·rw [e];exact I.funs
 ·rw [e]
  obtain ⟨m,hn,_⟩:=I.loc
  refine .cons (by rw [I.ok.kind];decide) hf hn ?_ I.funs
  exact Heap.get?_none_of_le (Nat.le_trans I.ok.bsz I.ok.above)
theorem Inv.zgD (I:Inv X pins σ H s):∀ b ∈ frs X.stack,b ∈ X.env.locals :: X.fs:=fun b hb=>by
 rcases I.ok.stk with e | ⟨e,hf⟩
 ·rw [e] at hb;exact List.mem_cons_of_mem _ hb
 ·rw [e] at hb
  unfold frs at hb
  rw [List.filterMap_cons,hf] at hb
  exact hb
theorem Inv.zgT (I:Inv X pins σ H s):∀ b ∈ frs X.stack,H b=none:=fun b hb=>by
 rcases List.mem_cons.mp (I.zgD b hb) with e | hb
 ·rw [e];exact I.free
 ·obtain ⟨_,o,ho,_⟩:=I.ok.funs.mem hb
  exact I.base.free b o ho (I.ok.frf b hb) fun z=>I.ok.exfs b z hb
theorem Inv.step {g':Array GenState} {t':Nat} {d':Drawn} {ch:List Addr} (I:Inv X pins σ H s)
  (hch:∀ b ∈ ch,(b ∈ X.ex∨X.s₀.heap.objs.size ≤ b)∧b ≠ X.env.locals∧(∀ x c,X.env.cells.lookup x=some c→c ≠ b)∧∀ p ∈ X.pn ++ pins,p.1 ≠ b)
  (keep:∀ b o,b ≠ X.env.locals→b ∉ X.fs→b ∉ ch→s.heap.get? b=some o→H b=none→h'.get? b=some o)
  (slot:∀ b o,b ≠ X.env.locals→b ∈ X.fs→b ∉ ch→s.heap.get? b=some o→H b=none→∃ sl,h'.get? b=some { o with slots:=sl }) (free:∀ b o,b ∉ ch→s.heap.get? b=some o→H b=none→H' b=none)
  (there:∀ b o,b ∉ ch→s.heap.get? b=some o→∃ o',h'.get? b=some o')
  (tups:∀ b xs,H b=some (.tup xs)→H' b=some (.tup xs)) (frzs:∀ b o u,H b=some (.frz o u)→H' b=some (.frz o u)) (tbls:∀ b ps,H b=some (.tbl ps)→∃ more,H' b=some (.tbl (ps ++ more)))
  (ns:∀ m,s.heap.Ns X.env.locals m→h'.Ns X.env.locals m) (hok:HOk X.prog X.w H' h') (hg:AllBare g') :
  Inv X pins σ H' { s with heap:=h',gens:=g',drawn:=d',toks:=t' }:=by
 have neL:∀ b o,X.s₀.heap.get? b=some o→b ≠ X.env.locals:=fun b o e=>Nat.ne_of_lt (Nat.lt_of_lt_of_le (Heap.lt_size e) I.ok.above)
 have neC:∀ b o,X.s₀.heap.get? b=some o→b ∉ X.ex→b ∉ ch:=fun b o e hx hb=>by
  rcases (hch b hb).1 with z | z
  ·exact hx z
  ·exact absurd (Nat.lt_of_lt_of_le (Heap.lt_size e) z) (Nat.lt_irrefl _)
 have cellK:∀ x c,X.env.cells.lookup x=some c→∀ v,s.heap.IsCell c v→h'.IsCell c v:=fun x c e v ⟨o,ho,hd⟩=>by
  have nch:c ∉ ch:=fun z=>(hch c z).2.2.1 x c e rfl
  by_cases hc:c ∈ X.fs
  ·obtain ⟨sl,q⟩:=slot c o (I.cne x c e) hc nch ho (I.freeC x c e)
   exact ⟨_,q,hd⟩
  ·exact ⟨o,keep c o (I.cne x c e) hc nch ho (I.freeC x c e),hd⟩
 refine ⟨I.ok,I.os,hg,⟨fun b o e n hb hx=>?_,fun b o e n hb hx=>?_,fun b o e n hx=>?_,fun b o e hx=>?_,fun b xs e=>tups b xs (I.base.tups b xs e),fun b o xs e=>frzs b o xs (I.base.frzs b o xs e),fun b ps e=>?_⟩,?_,fun x c e=>?_,?_,fun x c e=>?_,fun p hp=>?_,hok,I.len⟩
 ·exact keep b o (neL b o e) hb (neC b o e hx) (I.base.keep b o e n hb hx) (I.base.free b o e n hx)
 ·obtain ⟨sl,e1⟩:=I.base.slot b o e n hb hx
  obtain ⟨sl',e2⟩:=slot b _ (neL b o e) hb (neC b o e hx) e1 (I.base.free b o e n hx)
  exact ⟨sl',e2⟩
 ·obtain ⟨o',e1⟩:=I.base.there b o e hx
  exact free b o' (neC b o e hx) e1 (I.base.free b o e n hx)
 ·obtain ⟨o',e1⟩:=I.base.there b o e hx
  exact there b o' (neC b o e hx) e1
 ·obtain ⟨m1,e1⟩:=I.base.tbls b ps e
  obtain ⟨m2,e2⟩:=tbls b _ e1
  exact ⟨m1 ++ m2,by rw [e2,Array.append_assoc]⟩
 ·obtain ⟨m,hn,hl⟩:=I.loc
  refine ⟨m,ns m hn,fun i x v e1 e2 e3=>?_⟩
  obtain ⟨u,r,l⟩:=hl i x v e1 e2 e3
  refine ⟨u,r,?_⟩
  rcases l with l | ⟨k,c,e,z⟩
  ·exact .inl l
  ·exact .inr ⟨k,c,e,cellK x c e _ z⟩
 ·obtain ⟨v,z⟩:=I.cell x c e
  exact ⟨v,cellK x c e v z⟩
 ·obtain ⟨m,⟨o,_,_,ho,_⟩,_⟩:=I.loc
  exact free _ o (fun z=>(hch _ z).2.1 rfl) ho I.free
 ·obtain ⟨v,o,ho,hd⟩:=I.cell x c e
  exact free c o (fun z=>(hch c z).2.2.1 x c e rfl) ho (I.freeC x c e)
 ·obtain ⟨e,n,ne,nf,d⟩:=I.pin p hp
  have nch:p.1 ∉ ch:=fun z=>(hch p.1 z).2.2.2 p hp rfl
  exact ⟨keep p.1 p.2 ne nf nch e n,free p.1 p.2 nch e n,ne,nf,d⟩
theorem Inv.un {t':Nat} (I:Inv X pins σ H s) (u:Un X.fs [] H H' s.heap h') (hok:HOk X.prog X.w H' h'):Inv X pins σ H' { s with heap:=h',toks:=t' }:=by
 obtain ⟨m,⟨o,es,ep,ho,r⟩,_⟩:=id I.loc
 obtain ⟨sl,hL⟩:=u.any ho I.free (by simp)
 exact I.step (g':=s.gens) (d':=s.drawn) (ch:=[]) (fun _ z=>nomatch z) (fun b o _ hb _ e n=>u.keep b o e n hb (by simp)) (fun b o _ hb _ e n=>u.slot b o e n hb (by simp)) (fun b o _ e n=>u.free b o e n (by simp)) (fun b o _ e=>u.there b o e (by simp)) u.tups u.frzs u.tbls (fun m' hm=>by
  obtain ⟨o',es',ep',ho',r'⟩:=hm
  rw [ho] at ho';cases ho'
  exact ⟨_,es',ep',hL,r'⟩) hok I.bare
theorem Inv.call {g':Array GenState} {t':Nat} {d':Drawn} {ch:List Addr} (I:Inv X pins σ H s) (u:Un (frs X.stack) ch H H' s.heap h') (hok:HOk X.prog X.w H' h') (hg:AllBare g')
  (hch:∀ b ∈ ch,(b ∈ X.ex∨X.s₀.heap.objs.size ≤ b)∧b ≠ X.env.locals∧(∀ x c,X.env.cells.lookup x=some c→c ≠ b)∧∀ p ∈ X.pn ++ pins,p.1 ≠ b) :
  Inv X pins σ H' { s with heap:=h',gens:=g',drawn:=d',toks:=t' }:=by
 obtain ⟨m,⟨o,es,ep,ho,r⟩,_⟩:=id I.loc
 obtain ⟨sl,hL⟩:=u.any ho I.free fun z=>(hch _ z).2.1 rfl
 exact I.step (ch:=ch) hch (fun b o hL hb hc e n=>u.keep b o e n (fun z=>(List.mem_cons.mp (I.zgD b z)).elim hL hb) hc) (fun b o _ _ hc e n=>u.any e n hc) (fun b o hc e n=>u.free b o e n hc) (fun b o hc e=>u.there b o e hc) u.tups u.frzs u.tbls (fun m' hm=>by
  obtain ⟨o',es',ep',ho',r'⟩:=hm
  rw [ho] at ho';cases ho'
  exact ⟨_,es',ep',hL,r'⟩) hok hg
theorem Inv.turned {t':Nat} {it:Addr} (I:Inv X pins σ H s) (k:∀ b o,b ≠ it→s.heap.get? b=some o→h'.get? b=some o) (hn:H it=none) (hL:it ≠ X.env.locals)
  (h1:it ∈ X.ex∨X.s₀.heap.objs.size ≤ it) (h2:∀ x c,X.env.cells.lookup x=some c→c ≠ it) (h3:∀ p ∈ X.pn ++ pins,p.1 ≠ it):Inv X pins σ H { s with heap:=h',toks:=t' }:=by
 have nit:∀ b u,H b=some u→b ≠ it:=fun b u e z=>by rw [z,hn] at e;cases e
 refine I.step (g':=s.gens) (d':=s.drawn) (ch:=[it]) (fun b hb=>?_) (fun b o _ _ hc e _=>k b o (fun z=>hc (by simp [z])) e) (fun b o _ _ hc e _=>⟨o.slots,k b o (fun z=>hc (by simp [z])) e⟩) (fun _ _ _ _ n=>n)
  (fun b o hc e=>⟨o,k b o (fun z=>hc (by simp [z])) e⟩) (fun _ _ e=>e) (fun _ _ _ e=>e) (fun b ps e=>⟨#[],by rw [e];simp⟩) (fun m hm=>?_) (fun b u e=>?_) I.bare
 ·have e:b=it:=by simpa using hb
  subst e
  exact ⟨h1,hL,h2,h3⟩
 ·obtain ⟨o,es,ep,ho,r⟩:=hm
  exact ⟨o,es,ep,k _ o (Ne.symm hL) ho,r⟩
 ·refine (I.hok b u e).stay (fun c v hc q=>k c v ?_ q) (fun _ q=>q) fun _ _ q=>q
  rcases hc with z | z
  ·rw [z];exact nit b u e
  ·exact nit c _ z
theorem Inv.tok (I:Inv X pins σ H s) (t:Nat):Inv X pins σ H { s with toks:=t }:=I.un (h':=s.heap) (t':=t) Un.refl I.hok
theorem Inv.kept {t':Nat} (I:Inv X pins σ H s) (k:∀ b u,s.heap.get? b=some u→h'.get? b=some u):Inv X pins σ H { s with heap:=h',toks:=t' }:=I.un (Un.kept k) (I.hok.kept k)
theorem Inv.laid {a:Addr} {o:HO} {t':Nat} (I:Inv X pins σ H s) (k:∀ b u,s.heap.get? b=some u→h'.get? b=some u) (hp:s.heap.objs.size ≤ a) (new:zco X.prog X.w (upd H a o) h' a o) :
  Inv X pins σ (upd H a o) { s with heap:=h',toks:=t' }:=I.un (Un.laid k hp (I.hok.fresh hp)) (I.hok.laid k hp new)
theorem Inv.write {x e:Addr} {o:HO} {t':Nat} (I:Inv X pins σ H s) (mu:Mut (H x)) (he:e=x∨H e=some (.own x)) (k:∀ b u,b ≠ e→s.heap.get? b=some u→h'.get? b=some u) (heo:∃ u,h'.get? e=some u)
  (new:zco X.prog X.w (upd H x o) h' x o):Inv X pins σ (upd H x o) { s with heap:=h',toks:=t' }:=I.un (Un.write mu he k heo) (I.hok.write mu he k heo new)
theorem Inv.zgY {pins':List (Addr × Obj)} (I:Inv X pins σ H s) (h:∀ p ∈ pins',s.heap.get? p.1=some p.2∧H p.1=none∧p.1 ≠ X.env.locals∧p.1 ∉ X.fs∧∀ v,p.2.data ≠ .cell v):Inv X pins' σ H s :=
 ⟨I.ok,I.os,I.bare,I.base,I.loc,I.cell,I.free,I.freeC,fun p hp=>(List.mem_append.mp hp).elim (fun z=>I.pin p (List.mem_append_left _ z)) (h p),I.hok,I.len⟩
theorem zfQ {N:List Str} (hN:N.Nodup) {i j:Nat} {x:Str} (a:N[i]? = some x) (b:N[j]? = some x):i=j:=by
 obtain ⟨h1,e1⟩:=List.getElem?_eq_some_iff.mp a
 obtain ⟨h2,e2⟩:=List.getElem?_eq_some_iff.mp b
 exact (List.getElem_inj hN).mp (e1.trans e2.symm)
theorem ziE {M:Model} {A:Around} {E:Value→Shared→Prop} {i:Nat} {x:Str} {v:V} {u:Value} {Q:Unit→Shared→Prop} (I:Inv X pins σ H s) (hN:X.N.Nodup) (hi:X.N[i]? = some x) (hx:Loc X.env.scope x) (r:RelV v u)
  (h:∀ s',Inv X pins (σ.set i (some v)) H s'→(∃ a,Heap.SameBut a s.heap s'.heap∧(a=X.env.locals∨X.env.cells.lookup x=some a))→Q () s') (hf:X.fn x=true∨X.env.scope.names.lookup x=some .local:=by first | exact .inl rfl | exact .inr rfl | assumption):wpAny M A (storeName X.env x u) Q E s:=by
 obtain ⟨m,hn,hl⟩:=id I.loc
 have hcls:(X.env.scope.kind == .class || (X.env.scope.kind == .module && X.env.locals != X.env.globals))=false:=by rw [I.ok.kind];rfl
 have hiσ:i < σ.length:=by rw [I.len];exact (List.getElem?_eq_some_iff.mp hi).1
 have cne:=I.cne
 have tracked:∀ {a:Addr} {h':Heap},(∃ o,s.heap.get? a=some o∧H a=none)→Heap.SameBut a s.heap h'→HOk X.prog X.w H h':=fun {a h'} ha hs b ob e=>by
  obtain ⟨_,_,hfree⟩:=ha
  refine (I.hok b ob e).stay (fun c w' hc q=>(hs.2 c ?_).trans q) (fun _ q=>q) fun _ _ q=>q
  rintro rfl
  rcases hc with rfl | hc
  ·rw [hfree] at e;cases e
  ·rw [hfree] at hc;cases hc
 rcases hx with hk | hk
 ·refine wpAny_storeName_local hk hn (fun h' hn' hs=>?_) hcls
  obtain ⟨oL,_,_,hoL,_⟩:=id hn
  refine h _ ⟨I.ok,I.os,I.bare,⟨fun b o e n hb hx=>?_,fun b o e n hb hx=>?_,I.base.free,fun b o e hx=>?_,I.base.tups,I.base.frzs,I.base.tbls⟩,⟨_,hn',fun j y v' e1 e2 e3=>?_⟩,fun y c e=>?_,I.free,I.freeC,fun p hp=>?_,tracked ⟨oL,hoL,I.free⟩ hs,by simpa using I.len⟩ ⟨_,hs, .inl rfl⟩
  ·exact (hs.2 b (Nat.ne_of_lt (Nat.lt_of_lt_of_le (Heap.lt_size e) I.ok.above))).trans (I.base.keep b o e n hb hx)
  ·obtain ⟨sl,e1⟩:=I.base.slot b o e n hb hx
   exact ⟨sl,(hs.2 b (Nat.ne_of_lt (Nat.lt_of_lt_of_le (Heap.lt_size e) I.ok.above))).trans e1⟩
  ·obtain ⟨o',e1⟩:=I.base.there b o e hx
   exact ⟨o',(hs.2 b (Nat.ne_of_lt (Nat.lt_of_lt_of_le (Heap.lt_size e) I.ok.above))).trans e1⟩
  ·by_cases hj:j=i
   ·subst hj
    rw [hi] at e1;cases e1
    rw [List.getElem?_set_self hiσ] at e2
    cases e2
    exact ⟨u,r, .inl ⟨hk,by simp⟩⟩
   ·rw [List.getElem?_set_ne (Ne.symm hj)] at e2
    obtain ⟨u',r',q⟩:=hl j y v' e1 e2 e3
    refine ⟨u',r',?_⟩
    rcases q with ⟨k,e⟩ | ⟨k,c,e,z⟩
    ·refine .inl ⟨k,?_⟩
     have:y ≠ x:=fun e=>hj (zfQ hN e1 (e ▸ hi))
     simp [this,e]
    ·exact .inr ⟨k,c,e,z.sameBut hs (cne y c e)⟩
  ·obtain ⟨w',z⟩:=I.cell y c e
   exact ⟨w',z.sameBut hs (cne y c e)⟩
  ·obtain ⟨e,n,ne,nf,d⟩:=I.pin p hp
   exact ⟨(hs.2 p.1 ne).trans e,n,ne,nf,d⟩
 ·have hfn:X.fn x=true:=by
   rcases hf with z | z
   ·exact z
   ·rw [z] at hk;cases hk
  obtain ⟨c,hc⟩:=I.ok.has x (.inl hk)
  obtain ⟨w',z⟩:=I.cell x c hc
  refine wpAny_storeName_cell I.ok.kind hk hc z (fun h' hc' hs=>?_)
  obtain ⟨oc,hoc,hocd⟩:=id z
  refine h { s with heap:=h' } ⟨I.ok,I.os,I.bare,⟨fun b o e n hb hx=>?_,fun b o e n hb hx=>?_,I.base.free,fun b o e hx=>?_,I.base.tups,I.base.frzs,I.base.tbls⟩,⟨m,hn.sameBut hs (Ne.symm (cne x c hc)),fun j y v' e1 e2 e3=>?_⟩,fun y c' e=>?_,I.free,I.freeC,fun p hp=>?_,tracked ⟨oc,hoc,I.freeC x c hc⟩ hs,by simpa using I.len⟩ ⟨c,hs, .inr hc⟩
  ·exact (hs.2 b (Nat.ne_of_lt (Nat.lt_of_lt_of_le (Heap.lt_size e) (I.ok.cab x c hfn hc)))).trans (I.base.keep b o e n hb hx)
  ·obtain ⟨sl,e1⟩:=I.base.slot b o e n hb hx
   exact ⟨sl,(hs.2 b (Nat.ne_of_lt (Nat.lt_of_lt_of_le (Heap.lt_size e) (I.ok.cab x c hfn hc)))).trans e1⟩
  ·obtain ⟨o',e1⟩:=I.base.there b o e hx
   exact ⟨o',(hs.2 b (Nat.ne_of_lt (Nat.lt_of_lt_of_le (Heap.lt_size e) (I.ok.cab x c hfn hc)))).trans e1⟩
  ·by_cases hj:j=i
   ·subst hj
    rw [hi] at e1;cases e1
    rw [List.getElem?_set_self hiσ] at e2
    cases e2
    exact ⟨u,r, .inr ⟨.inl hk,c,hc,hc'⟩⟩
   ·rw [List.getElem?_set_ne (Ne.symm hj)] at e2
    obtain ⟨u',r',q⟩:=hl j y v' e1 e2 e3
    refine ⟨u',r',?_⟩
    rcases q with q | ⟨k,c',e,z'⟩
    ·exact .inl q
    ·refine .inr ⟨k,c',e,z'.sameBut hs ?_⟩
     rintro rfl
     exact hj (zfQ hN e1 (I.ok.inj _ _ _ e hc ▸ hi))
  ·by_cases hcc:c'=c
   ·subst hcc;exact ⟨_,hc'⟩
   ·obtain ⟨w2,z2⟩:=I.cell y c' e
    exact ⟨w2,z2.sameBut hs hcc⟩
  ·obtain ⟨e,n,ne,nf,d⟩:=I.pin p hp
   refine ⟨(hs.2 p.1 ?_).trans e,n,ne,nf,d⟩
   intro q
   rw [q,hoc] at e
   have q':oc=p.2:=Option.some.inj e
   exact d w' (by rw [← q'];exact hocd)
theorem zeq {M:Model} {A:Around} {E:Value→Shared→Prop} {i:Nat} {x:Str} {v:V} {u:Value} {Q:Unit→Shared→Prop} (I:Inv X pins σ H s) (hN:X.N.Nodup) (hi:X.N[i]? = some x) (hx:Loc X.env.scope x) (r:RelV v u)
  (h:∀ s',Inv X pins (σ.set i (some v)) H s'→Q () s') (hf:X.fn x=true∨X.env.scope.names.lookup x=some .local:=by first | exact .inl rfl | exact .inr rfl | assumption):wpAny M A (storeName X.env x u) Q E s :=
 ziE I hN hi hx r (fun s' I' _=>h s' I') hf
theorem Inv.zlX {s':Shared} {ch:List Addr} (I:Inv X pins σ H s) (ho:s'.os=s.os) (u:Un (frs X.stack) ch H H' s.heap s'.heap) (hok:HOk X.prog X.w H' s'.heap) (hg:AllBare s'.gens)
  (hch:∀ b ∈ ch,(b ∈ X.ex∨X.s₀.heap.objs.size ≤ b)∧b ≠ X.env.locals∧(∀ x c,X.env.cells.lookup x=some c→c ≠ b)∧∀ p ∈ X.pn ++ pins,p.1 ≠ b):Inv X pins σ H' s':=by
 obtain ⟨h',g',d',t',o'⟩:=s'
 have e:o'=s.os:=ho
 subst e
 exact I.call (g':=g') (t':=t') (d':=d') u hok hg hch
end
abbrev XK:=Value→Option Addr→Hp→Prop
abbrev St:=List (Option V)
abbrev VK:=V→Hp→Prop
abbrev TE:=St→Hp→VK→Prop
abbrev TT:=St→Hp→(Bool→Hp→Prop)→Prop
abbrev TA:=St→Hp→(List V→Hp→Prop)→Prop
structure Ends where
 nx:St→Hp→Prop
 rt:VK
 bk:St→Hp→Prop:=fun _ _=>False
 ct:St→Hp→Prop:=fun _ _=>False
abbrev TS:=Ends→St→Hp→Prop
def EP (X:Cx) (pins:List (Addr × Obj)) (σ:St) (Q:VK) (u:Value) (s':Shared):Prop:=∃ v H',Inv X pins σ H' s'∧RelV v u∧Q v H'
def TP (X:Cx) (pins:List (Addr × Obj)) (σ:St) (Q:Bool→Hp→Prop) (b:Bool) (s':Shared):Prop:=∃ H',Inv X pins σ H' s'∧Q b H'
def AP (X:Cx) (pins:List (Addr × Obj)) (σ:St) (Q:List V→Hp→Prop) (us:List Value) (s':Shared):Prop:=∃ vs H',Inv X pins σ H' s'∧Vals vs us∧Q vs H'
def SP (X:Cx) (pins:List (Addr × Obj)) (D:Ends) (f:Flow) (s':Shared):Prop :=
 match f with
 | .next=>∃ σ' H',Inv X pins σ' H' s'∧D.nx σ' H'
 | .brk=>∃ σ' H',Inv X pins σ' H' s'∧D.bk σ' H'
 | .cont=>∃ σ' H',Inv X pins σ' H' s'∧D.ct σ' H'
 | .ret u=>∃ v σ' H',Inv X pins σ' H' s'∧RelV v u∧D.rt v H'
def PE (X:Cx) (e:Expr) (t:TE):Prop :=
 ∀ (pins:List (Addr × Obj)) (s:Shared) (σ:St) (H:Hp) (Q:VK),Inv X pins σ H s→t σ H Q→wpAny (model X.prog X.w) X.A (eval e X.env) (EP X pins σ Q) X.xe s
def PT (X:Cx) (e:Expr) (t:TT):Prop :=
 ∀ (pins:List (Addr × Obj)) (s:Shared) (σ:St) (H:Hp) (Q:Bool→Hp→Prop),Inv X pins σ H s→t σ H Q→wpAny (model X.prog X.w) X.A (isTrue e X.env (eval e X.env)) (TP X pins σ Q) X.xe s
def PW (X:Cx) (e:Expr) (t:TT):Prop :=
 ∀ (whole:Sem Value) (pins:List (Addr × Obj)) (s:Shared) (σ:St) (H:Hp) (Q:Bool→Hp→Prop),Inv X pins σ H s→t σ H Q→wpAny (model X.prog X.w) X.A (isTrue e X.env whole) (TP X pins σ Q) X.xe s
theorem PW.pt {X:Cx} {e:Expr} {t:TT} (h:PW X e t):PT X e t:=h _
def PA (X:Cx) (es:List Expr) (t:TA):Prop :=
 ∀ (pos:Pos) (pins:List (Addr × Obj)) (s:Shared) (σ:St) (H:Hp) (Q:List V→Hp→Prop),Inv X pins σ H s→t σ H Q→wpAny (model X.prog X.w) X.A (spliced (backTo pos (starEach es X.env))) (AP X pins σ Q) X.xe s
def PS (X:Cx) (st:Stmt) (t:TS):Prop :=
 ∀ (pins:List (Addr × Obj)) (s:Shared) (σ:St) (H:Hp) (D:Ends),Inv X pins σ H s→t D σ H→wpAny (model X.prog X.w) X.A (exec st X.env) (SP X pins D) X.xe s
def PSs (X:Cx) (st:List Stmt) (t:TS):Prop :=
 ∀ (pins:List (Addr × Obj)) (s:Shared) (σ:St) (H:Hp) (D:Ends),Inv X pins σ H s→t D σ H→wpAny (model X.prog X.w) X.A (execs st X.env) (SP X pins D) X.xe s
theorem thn {α:Type} {t:Sem α} {Q Q':α→Shared→Prop} {M:Model} {A:Around} {E:Value→Shared→Prop} {s:Shared} (h:wpAny M A t Q E s) (hQ:∀ a s,Q a s→Q' a s):wpAny M A t Q' E s:=wpAny_mono h hQ fun _ _ x=>x
end L2
namespace L2
open PySem PySem.Spec PyProof.Rows
section
variable {X:Cx}
def tVar (i:Nat):TE:=fun σ H Q=>∃ v,σ[i]? = some (some v)∧Q v H
def tC (v:V):TE:=fun _ H Q=>Q v H
theorem zi7 {i:Nat} {x:Str} {pos:Pos} (hN:X.N[i]? = some x) (hv:Vis X.env.scope x) (hd:(x == ("__debug__" : Str))=false:=by decide) (hcd:(x == ("__classdict__" : Str))=false:=by decide):PE X (.Name x pos) (tVar i):=by
 intro pins s σ H Q I h
 obtain ⟨v,e,h⟩:=h
 obtain ⟨m,hn,hl⟩:=I.loc
 obtain ⟨u,r,l⟩:=hl i x v hN e hv
 have fin:EP X pins σ Q u s:=⟨v,H,I,r,h⟩
 rcases l with ⟨hk,hm⟩ | ⟨hk,c,hc,hcell⟩
 ·exact wpAny_Name (wpAny_loadName_local I.ok.kind hk hn hm fin) hd
 ·rcases hk with hk | hk
  ·exact wpAny_Name (wpAny_loadName_cell I.ok.kind hk hc hcell fin) hd
  ·exact wpAny_Name (wpAny_loadName_free I.ok.kind hk hc hcell fin hcd) hd
theorem zmN {i j pos}:PE X (.Constant (.int i) j pos) (tC (.int i)):=fun _ _ _ H _ I h=>wpAny_Constant_int ⟨.int i,H,I.tok _,⟨_,rfl⟩,h⟩
theorem zob {b j pos}:PE X (.Constant (.bool b) j pos) (tC (.bl b)):=fun _ _ _ H _ I h=>Constant_bool ⟨.bl b,H,I,rfl,h⟩
theorem znJ {j pos}:PE X (.Constant .none j pos) (tC .non):=fun _ _ _ H _ I h=>Constant_none ⟨.non,H,I,rfl,h⟩
theorem zna {x j pos}:PE X (.Constant (.str x) j pos) (tC (.str x)):=fun _ _ _ H _ I h=>Calls.Constant_str ⟨.str x,H,I.tok _,⟨_,rfl⟩,h⟩
def Gl (X:Cx) (x:Str):Prop:=X.env.kindOf x=some .globalImplicit
theorem zdG {E:Value→Shared→Prop} {pins:List (Addr × Obj)} {s:Shared} {σ:St} {H:Hp} {x:Str} {u:Value} {pos:Pos} {Q:Value→Shared→Prop} (I:Inv X pins σ H s) (hg:Gl X x) (hm:X.mg x=some u) (h:Q u s)
  (hd:(x == ("__debug__" : Str))=false:=by decide):wpAny (model X.prog X.w) X.A (eval (.Name x pos) X.env) Q E s :=
 Calls.Name_function_global I.ok.kind hg (Calls.loadGlobal_global (by rw [I.ok.glob];exact I.mod.glob.keeps I.bk) hm h) hd
theorem zhj {E:Value→Shared→Prop} {pins:List (Addr × Obj)} {s:Shared} {σ:St} {H:Hp} {x:Str} {u:Value} {pos:Pos} {Q:Value→Shared→Prop} (I:Inv X pins σ H s) (hg:Gl X x) (hm:X.mg x=none) (hv:bootBuiltins x=some u) (h:Q u s)
  (hn:x ≠ "__name__":=by decide) (hd:(x == ("__debug__" : Str))=false:=by decide):wpAny (model X.prog X.w) X.A (eval (.Name x pos) X.env) Q E s:=by
 obtain ⟨mb,h1,h2⟩:=I.mod.blt
 exact Calls.Name_function_global I.ok.kind hg (Calls.loadGlobal_builtin (by rw [I.ok.glob];exact I.mod.glob.keeps I.bk) hm (by rw [I.ok.blt];exact h1.keeps I.bk) ((h2 x hn).trans hv) h) hd
theorem zmh {x:Str} {v:V} {u:Value} {pos:Pos} (hg:Gl X x) (hm:X.mg x=some u) (r:RelV v u) (hd:(x == ("__debug__" : Str))=false:=by decide):PE X (.Name x pos) (tC v) :=
 fun _ _ _ H _ I h=>zdG I hg hm ⟨v,H,I,r,h⟩ hd
theorem zlj {x:Str} {v:V} {u:Value} {pos:Pos} (hg:Gl X x) (hm:X.mg x=none) (hv:bootBuiltins x=some u) (r:RelV v u) (hn:x ≠ "__name__":=by decide) (hd:(x == ("__debug__" : Str))=false:=by decide):PE X (.Name x pos) (tC v) :=
 fun _ _ _ H _ I h=>zhj I hg hm hv ⟨v,H,I,r,h⟩ hn hd
variable {a b:Expr} {ta tb:TE} {pos:Pos}
def tB (t:TE):TT:=fun σ H Q=>t σ H fun x H1=>∃ c,x = .bl c∧Q c H1
theorem znZ {e:Expr} {t:TE} (h:PE X e t) (he:∀ whole,isTrue e X.env whole=(do let v ← whole;standAt e.pos;holding [v] (truthy v)):=by intro _;rfl):PT X e (tB t):=by
 intro pins s σ H Q I hw
 refine isTrue_plain (thn (h pins s σ H _ I hw) fun v s1 ⟨x,H1,I1,r1,q1⟩=>?_) (he _)
 obtain ⟨d,rfl,q⟩:=q1
 cases r1
 exact wpAny_truthy_bool ⟨H1,I1,q⟩
variable {tA tB':TT} {rest:List Expr}
def tOr (t u:TT):TT:=fun σ H Q=>t σ H fun c H1=>if c=true then Q true H1 else u σ H1 Q
def tNot (t:TT):TT:=fun σ H Q=>t σ H fun c H1=>Q (!c) H1
theorem pw_or1 (ha:PT X a tA):PW X (.BoolOp .Or [a] pos) tA:=by
 intro wh pins s σ H Q I h
 refine isTrue_or (thn (ha pins s σ H Q I h) fun c s1 e=>?_)
 cases c with
 | false=>exact isTrue_or_nil e
 | true=>exact e
theorem pw_or (ha:PT X a tA) (hb:PW X (.BoolOp .Or (b :: rest) pos) tB'):PW X (.BoolOp .Or (a :: b :: rest) pos) (tOr tA tB'):=by
 intro wh pins s σ H Q I h
 refine isTrue_or (thn (ha pins s σ H _ I h) fun c s1 ⟨H1,I1,q1⟩=>?_)
 cases c with
 | true=>exact ⟨H1,I1,q1⟩
 | false=>exact hb wh pins s1 σ H1 Q I1 q1
theorem zmV (ha:PT X a tA):PT X (.UnaryOp .Not a pos) (tNot tA):=by
 intro pins s σ H Q I h
 exact isTrue_not (ha pins s σ H (fun c H1=>Q (!c) H1) I h)
end
end L2
namespace L2
open PySem PySem.Spec PyProof.Rows
def SqL (K:PySem.W.Frag) (H:Hp) (a:Addr) (xs:List V):Prop :=
 Rd H a (.lst xs) ∨
  ∃ (o:Obj) (its:Array Value) (n:Nat),K.lookup a=some o∧o.cls = .type "list"∧o.dict=none∧o.data = .seq its n∧its.size ≤ sizeLine∧Vals xs its.toList
def SqT (K:PySem.W.Frag) (H:Hp) (a:Addr) (xs:List V):Prop :=
 Rd H a (.tup xs) ∨
  ∃ (o:Obj) (its:Array Value) (n:Nat),K.lookup a=some o∧o.cls = .type "tuple"∧o.data = .seq its n∧its.size ≤ sizeLine∧Vals xs its.toList
def absV:Value→Option V
 | .none=>some .non
 | .bool b=>some (.bl b)
 | .int i _=>some (.int i)
 | .str x _=>some (.str x)
 | .bytes b _=>some (.byt b)
 | .float b _=>some (.flt b)
 | .ref a=>some (.ref a)
 | .type n=>some (.ty n)
 | _=>none
theorem RelV.abs {x:V} {u:Value} (r:RelV x u):absV u=some x:=by
 cases x with
 | non=>cases r;rfl
 | bl _=>cases r;rfl
 | int _=>obtain ⟨t,rfl⟩:=r;rfl
 | str _=>obtain ⟨t,rfl⟩:=r;rfl
 | byt _=>obtain ⟨t,rfl⟩:=r;rfl
 | flt _=>obtain ⟨t,rfl⟩:=r;rfl
 | ref _=>cases r;rfl
 | ty _=>cases r;rfl
theorem RelV.inj {x y:V} {u:Value} (r:RelV x u) (q:RelV y u):x=y:=Option.some.inj (r.abs.symm.trans q.abs)
theorem Vals.inj:∀ {xs ys:List V} {us:List Value},Vals xs us→Vals ys us→xs=ys
 | _,_,_, .nil, .nil=>rfl
 | _,_,_, .cons r t, .cons r' t'=>by rw [r.inj r',Vals.inj t t']
section
variable {X:Cx} {pins:List (Addr × Obj)} {σ:St} {H:Hp} {s:Shared} {a:Addr} {xs ys:List V}
theorem SqL.of {K:PySem.W.Frag} (h:H a=some (.lst xs)):SqL K H a xs := .inl (.inl h)
theorem SqT.of {K:PySem.W.Frag} (h:H a=some (.tup xs)):SqT K H a xs := .inl (.inl h)
theorem Inv.list (I:Inv X pins σ H s) (h:SqL X.K H a xs):∃ its:List Value,Vals xs its∧PlainL s.heap a its.toArray∧xs.length ≤ sizeLine:=by
 rcases h with h | ⟨o,its,n,hk,hc,hd,hs,hz,r⟩
 ·obtain ⟨z,its,n,r,e⟩:=h.ok I.hok
  exact ⟨its,r,⟨_,n,e,rfl,rfl,rfl⟩,z⟩
 ·refine ⟨its.toList,r,⟨o,n,I.kIn a o hk,hc,hd,by simpa using hs⟩,?_⟩
  have e:=r.length
  simp only [Array.length_toList] at e
  omega
theorem Inv.tuple (I:Inv X pins σ H s) (h:SqT X.K H a xs):∃ its:List Value,Vals xs its∧IsTup s.heap a its.toArray∧xs.length ≤ sizeLine:=by
 rcases h with h | ⟨o,its,n,hk,hc,hs,hz,r⟩
 ·obtain ⟨z,its,r,p⟩:=h.ok I.hok
  exact ⟨its,r,p,z⟩
 ·refine ⟨its.toList,r,⟨o,I.kIn a o hk,hc,n,by simpa using hs⟩,?_⟩
  have e:=r.length
  simp only [Array.length_toList] at e
  omega
theorem Inv.zhp (I:Inv X pins σ H s) (h:SqL X.K H a xs) (h':SqL X.K H a ys):xs=ys:=by
 obtain ⟨its,r,⟨o,n,e,_,_,d⟩,_⟩:=I.list h
 obtain ⟨its',r',⟨o',n',e',_,_,d'⟩,_⟩:=I.list h'
 rw [e] at e';cases e'
 rw [d] at d'
 injection d' with d1 _
 have:its=its':=by simpa using congrArg Array.toList d1
 subst this
 exact r.inj r'
theorem Inv.ziH (I:Inv X pins σ H s) (h:SqT X.K H a xs) (h':SqT X.K H a ys):xs=ys:=by
 obtain ⟨its,r,⟨o,e,_,n,d⟩,_⟩:=I.tuple h
 obtain ⟨its',r',⟨o',e',_,n',d'⟩,_⟩:=I.tuple h'
 rw [e] at e';cases e'
 rw [d] at d'
 injection d' with d1 _
 have:its=its':=by simpa using congrArg Array.toList d1
 subst this
 exact r.inj r'
end
abbrev Cx.wish (X:Cx) (E:Value→Shared→Prop):Cx:={ X with xe:=E }
abbrev Cx.nox (X:Cx):Cx:=X.wish fun _ _=>False
theorem Cx.Ok.wish {X:Cx} (ok:X.Ok) (E:Value→Shared→Prop):(X.wish E).Ok :=
 ⟨ok.mod,ok.kind,ok.glob,ok.blt,ok.above,ok.inj,ok.has,ok.cab,ok.hd,ok.frames,ok.stk,ok.exf,ok.bs,ok.bsz,ok.noex,ok.exfs,ok.funs,ok.frf⟩
theorem Cx.Ok.zck {X:Cx} {E:Value→Shared→Prop} (ok:(X.wish E).Ok):X.Ok :=
 ⟨ok.mod,ok.kind,ok.glob,ok.blt,ok.above,ok.inj,ok.has,ok.cab,ok.hd,ok.frames,ok.stk,ok.exf,ok.bs,ok.bsz,ok.noex,ok.exfs,ok.funs,ok.frf⟩
section
variable {X:Cx} {pins:List (Addr × Obj)} {σ:St} {H:Hp} {s:Shared} {E:Value→Shared→Prop}
theorem Inv.wish (I:Inv X pins σ H s) (E:Value→Shared→Prop):Inv (X.wish E) pins σ H s:=⟨I.ok.wish E,I.os,I.bare,I.base,I.loc,I.cell,I.free,I.freeC,I.pin,I.hok,I.len⟩
theorem Inv.zck (I:Inv (X.wish E) pins σ H s):Inv X pins σ H s:=⟨I.ok.zck,I.os,I.bare,I.base,I.loc,I.cell,I.free,I.freeC,I.pin,I.hok,I.len⟩
theorem SP.zck {D:Ends} {f:Flow} {s':Shared} (h:SP (X.wish E) pins D f s'):SP X pins D f s':=by
 cases f with
 | next=>obtain ⟨σ',H',I,q⟩:=h;exact ⟨σ',H',I.zck,q⟩
 | brk=>obtain ⟨σ',H',I,q⟩:=h;exact ⟨σ',H',I.zck,q⟩
 | cont=>obtain ⟨σ',H',I,q⟩:=h;exact ⟨σ',H',I.zck,q⟩
 | ret u=>obtain ⟨v,σ',H',I,r,q⟩:=h;exact ⟨v,σ',H',I.zck,r,q⟩
theorem PE.nox {e:Expr} {t:TE} (h:PE X.nox e t):PE X e t:=fun pins s σ H Q I hw =>
 wpAny_mono (h pins s σ H Q (I.wish _) hw) (fun _ _ ⟨v,H',I',r,q⟩=>⟨v,H',I'.zck,r,q⟩) fun _ _ z=>False.elim z
theorem PT.nox {e:Expr} {t:TT} (h:PT X.nox e t):PT X e t:=fun pins s σ H Q I hw =>
 wpAny_mono (h pins s σ H Q (I.wish _) hw) (fun _ _ ⟨H',I',q⟩=>⟨H',I'.zck,q⟩) fun _ _ z=>False.elim z
theorem PSs.nox {st:List Stmt} {t:TS} (h:PSs X.nox st t):PSs X st t:=fun pins s σ H D I hw =>
 wpAny_mono (h pins s σ H D (I.wish _) hw) (fun _ _ q=>q.zck) fun _ _ z=>False.elim z
end
section
variable {X:Cx} {st:Stmt} {rest:List Stmt} {t u:TS} {e:Expr} {te:TE} {pos:Pos}
def zou:TS:=fun D σ H=>D.nx σ H
def tSeq (t u:TS):TS:=fun D σ H=>t { D with nx:=u D } σ H
theorem zmg:PSs X [] zou:=fun _ _ σ H _ I h=>wpAny_execs_nil ⟨σ,H,I,h⟩
theorem zkr (h1:PS X st t) (h2:PSs X rest u):PSs X (st :: rest) (tSeq t u):=by
 intro pins s σ H D I h
 refine wpAny_execs_cons (thn (h1 pins s σ H { D with nx:=u D } I h) fun f s1 q=>?_)
 cases f with
 | next =>
  obtain ⟨σ',H',I',q⟩:=q
  exact h2 pins s1 σ' H' D I' q
 | ret v=>exact q
 | brk=>exact q
 | cont=>exact q
theorem zkW (h1:PS X st t):PSs X [st] t:=by
 intro pins s σ H D I h
 refine wpAny_execs_cons (thn (h1 pins s σ H D I h) fun f s1 q=>?_)
 cases f with
 | next=>exact wpAny_execs_nil q
 | ret v=>exact q
 | brk=>exact q
 | cont=>exact q
theorem Inv.quiet {pins:List (Addr × Obj)} {σ:St} {H:Hp} {s:Shared} (I:Inv X pins σ H s):interactive X.env=false:=by simp [interactive,I.ok.kind]
def zoH (te:TE):TS:=fun D σ H=>te σ H fun _ H1=>D.nx σ H1
theorem zlk (he:PE X e te) (hs:swapsWith e none pos.line X.env=pure false:=by rfl):PS X (.Expr e pos) (zoH te):=by
 intro pins s σ H D I h
 exact wpAny_Expr_any (thn (he pins s σ H _ I h) fun v s1 ⟨x,H1,I1,r1,q1⟩=>⟨σ,H1,I1,q1⟩) I.quiet hs
def tRet (te:TE):TS:=fun D σ H=>te σ H D.rt
theorem zmH (he:PE X e te):PS X (.Return (some e) pos) (tRet te):=by
 intro pins s σ H D I h
 exact wpAny_Return_some (thn (he pins s σ H _ I h) fun v s1 ⟨x,H1,I1,r1,q1⟩=>⟨x,σ,H1,I1,r1,q1⟩)
def tIfS (c:TT) (t u:TS):TS:=fun D σ H=>c σ H fun b H1=>if b=true then t D σ H1 else u D σ H1
theorem zoA {c:Expr} {a b:List Stmt} {tc:TT} (hc:PT X c tc) (ha:PSs X a t) (hb:PSs X b u):PS X (.If c a b pos) (tIfS tc t u):=by
 intro pins s σ H D I h
 refine wpAny_If (thn (hc pins s σ H _ I h) fun d s1 ⟨H1,I1,q1⟩=>?_)
 cases d with
 | true=>exact ha pins s1 σ H1 D I1 q1
 | false=>exact hb pins s1 σ H1 D I1 q1
end
abbrev TG:=V→St→Hp→(St→Hp→Prop)→Prop
abbrev TGs:=List V→St→Hp→(St→Hp→Prop)→Prop
def PG (X:Cx) (target:Expr) (t:TG):Prop :=
 ∀ (pins:List (Addr × Obj)) (s:Shared) (σ:St) (H:Hp) (v:V) (u:Value) (Q:St→Hp→Prop),Inv X pins σ H s→RelV v u→t v σ H Q →
  wpAny (model X.prog X.w) X.A (assign target X.env u) (fun _ s'=>∃ σ' H',Inv X pins σ' H' s'∧Q σ' H') X.xe s
def PGs (X:Cx) (ts:List Expr) (t:TGs):Prop :=
 ∀ (pins:List (Addr × Obj)) (s:Shared) (σ:St) (H:Hp) (vs:List V) (us:List Value) (Q:St→Hp→Prop),Inv X pins σ H s→Vals vs us→t vs σ H Q →
  wpAny (model X.prog X.w) X.A (assignInOrder ((assignEach ts X.env).map (·.2)) us) (fun _ s'=>∃ σ' H',Inv X pins σ' H' s'∧Q σ' H') X.xe s
abbrev TSet:=V→V→V→Hp→(Hp→Prop)→Prop
def PSet (X:Cx) (t:TSet):Prop :=
 ∀ (pins:List (Addr × Obj)) (s:Shared) (σ:St) (H:Hp) (o i v:V) (ov iv u:Value) (Q:Hp→Prop),Inv X pins σ H s→RelV o ov→RelV i iv→RelV v u→t o i v H Q →
  wpAny (model X.prog X.w) X.A (setItem ov iv u) (fun _ s'=>∃ H',Inv X pins σ H' s'∧Q H') X.xe s
section
variable {X:Cx} {pos:Pos}
def zm6 (i:Nat):TG:=fun v σ H Q=>Q (σ.set i (some v)) H
theorem zkZ {i:Nat} {x:Str} (hN:X.N.Nodup) (hi:X.N[i]? = some x) (hx:Loc X.env.scope x) (hf:X.fn x=true∨X.env.scope.names.lookup x=some .local:=by first | exact .inl rfl | exact .inr rfl | assumption):PG X (.Name x pos) (zm6 i):=by
 intro pins s σ H v u Q I r h
 exact wpAny_assign_Name (zeq I hN hi hx r (fun s' I'=>⟨_,H,I',h⟩) hf)
def gNil:TGs:=fun vs σ H Q=>vs=[]∧Q σ H
def zoa (t:TG) (u:TGs):TGs:=fun vs σ H Q=>∃ v r,vs=v :: r∧t v σ H fun σ' H'=>u r σ' H' Q
theorem zlc:PGs X [] gNil:=by
 intro pins s σ H vs us Q I r h
 obtain ⟨e,h⟩:=h
 subst e
 cases r
 exact assignInOrder_nil ⟨σ,H,I,h⟩
theorem zkt {e:Expr} {es:List Expr} {t:TG} {u:TGs} (h1:PG X e t) (h2:PGs X es u)
  (hs:(assignEach (e :: es) X.env).map (·.2)=assign e X.env :: (assignEach es X.env).map (·.2):=by rfl):PGs X (e :: es) (zoa t u):=by
 intro pins s σ H vs us Q I r h
 obtain ⟨v,vr,e1,h⟩:=h
 subst e1
 cases r with
 | cons r rr =>
  rw [hs]
  refine assignInOrder_cons (thn (h1 pins s σ H _ _ _ I r h) fun _ s1 ⟨σ1,H1,I1,q1⟩=>?_)
  exact h2 pins s1 σ1 H1 _ _ Q I1 rr q1
def gTup (K:PySem.W.Frag) (n:Nat) (t:TGs):TG:=fun v σ H Q=>∃ a xs,v = .ref a∧SqT K H a xs∧xs.length=n∧t xs σ H Q
theorem znr {es:List Expr} {k:Nat} {t:TGs} {n:Nat} (hc:X.calm=true) (h:PGs X es t)
  (hn:(assignEach es X.env).length=n:=by rfl) (hst:(assignEach es X.env).findIdx? (·.1)=none:=by rfl):PG X (.Tuple es k pos) (gTup X.K n t):=by
 intro pins s σ H v u Q I r hw
 obtain ⟨a,xs,e1,hq,hl,hw⟩:=hw
 subst e1
 cases r
 obtain ⟨its,rv,ht,hz⟩:=I.tuple hq
 refine assign_Tuple_tuple (I.ok.hd hc) ht (by simp [hn,← hl,rv.length]) hst fun h' hx=>?_
 have I1:Inv X pins σ H { s with heap:=h' }:=I.kept (t':=s.toks) fun b o e=>hx b o (Nat.ne_of_lt (Heap.lt_size e)) e
 exact h pins _ σ H xs _ Q I1 (by simpa using rv) hw
def gSub (to ti:TE) (t:TSet):TG:=fun v σ H Q=>to σ H fun o H1=>ti σ H1 fun i H2=>t o i v H2 fun H3=>Q σ H3
theorem znY {o i:Expr} {to ti:TE} {t:TSet} (ho:PE X o to) (hi:PE X i ti) (hs:PSet X t)
  (ha:∀ v,assign (.Subscript o i pos) X.env v=(do
   let ov ← holding [v] (eval o X.env)
   let iv ← holding [v,ov] (eval i X.env)
   standAt pos
   holding [v,ov,iv] (setItem ov iv v)
   release [v,ov,iv] []):=by intro _;rfl):PG X (.Subscript o i pos) (gSub to ti t):=by
 intro pins s σ H v u Q I r h
 rw [ha]
 refine wpAny_bind (wpAny_holding (thn (ho pins s σ H _ I h) fun ov s1 ⟨x,H1,I1,r1,q1⟩=>?_))
 refine wpAny_bind (wpAny_holding (thn (hi pins s1 σ H1 _ I1 q1) fun iv s2 ⟨y,H2,I2,r2,q2⟩=>?_))
 refine wpAny_bind (wpAny_standAt (wpAny_bind (wpAny_holding (thn (hs pins s2 σ H2 x y v ov iv u _ I2 r1 r2 r q2) fun _ s3 ⟨H3,I3,q3⟩=>?_))))
 exact wpAny_release ⟨σ,H3,I3,q3⟩
def tAsg (te:TE) (g:TG):TS:=fun D σ H=>te σ H fun x H1=>g x σ H1 D.nx
theorem znB {tg e:Expr} {te:TE} {g:TG} (he:PE X e te) (hg:PG X tg g) (hs:swapsWithSole [tg] e pos.line X.env=pure false:=by rfl) (hw:swappedStores [tg] e X.env=pure none:=by rfl)
  (h1:(assignEach [tg] X.env).map (·.2)=[assign tg X.env]:=by rfl):PS X (.Assign [tg] e pos) (tAsg te g):=by
 intro pins s σ H D I h
 refine wpAny_Assign_stores (thn (he pins s σ H _ I h) fun v s1 ⟨x,H1,I1,r1,q1⟩=>?_) hs hw
 rw [h1]
 exact thn (hg pins s1 σ H1 x v _ I1 r1 q1) fun _ s2 q=>q
theorem znE {i:Nat} {x:Str} {e:Expr} {te:TE} {pos':Pos} (hN:X.N.Nodup) (hi:X.N[i]? = some x) (hx:Loc X.env.scope x) (he:PE X e te) (hs:swapsWith e (some (.Name x pos')) pos.line X.env=pure false:=by rfl) (hf:X.fn x=true∨X.env.scope.names.lookup x=some .local:=by first | exact .inl rfl | exact .inr rfl | assumption) :
  PS X (.Assign [.Name x pos'] e pos) (tAsg te (zm6 i)):=by
 intro pins s σ H D I h
 refine wpAny_Assign_Name (thn (he pins s σ H _ I h) fun v s1 ⟨y,H1,I1,r1,q1⟩=>?_) hs
 exact zeq I1 hN hi hx r1 (fun s2 I2=>⟨_,H1,I2,q1⟩) hf
end
section
variable {X:Cx} {pos:Pos}
end
structure It where
 go:Nat→Hp→Prop
 yld:Nat→Hp→V→Hp→Prop
 stop:Nat→Hp→Prop
def FpOk (X:Cx) (pins:List (Addr × Obj)) (H:Hp) (b:Addr):Prop :=
 H b=none∧b ≠ X.env.locals∧b ∉ X.fs∧(b ∈ X.ex∨X.s₀.heap.objs.size ≤ b)∧(∀ x c,X.env.cells.lookup x=some c→c ≠ b)∧∀ p ∈ X.pn ++ pins,p.1 ≠ b
theorem Inv.fpOk {X:Cx} {pins:List (Addr × Obj)} {σ:St} {H H':Hp} {s:Shared} {b:Addr} (I:Inv X pins σ H s) (hb:s.heap.objs.size ≤ b) (hn:H' b=none):FpOk X pins H' b:=by
 refine ⟨hn,Nat.ne_of_gt (Nat.lt_of_lt_of_le I.lt hb),I.nofs hb, .inr (Nat.le_trans I.sz hb),fun x c e z=>?_,fun p hp z=>?_⟩
 ·obtain ⟨v,q⟩:=I.cell x c e
  exact absurd (Nat.lt_of_lt_of_le q.lt (by rw [z];exact hb)) (Nat.lt_irrefl _)
 ·exact absurd (Nat.lt_of_lt_of_le (Heap.lt_size (I.pin p hp).1) (by rw [z];exact hb)) (Nat.lt_irrefl _)
structure Turn (P:Program) (w:World) (K:PySem.W.Frag) (tg:Expr) (J:It) (fp:List Addr) (it:Addr) (tn:Nat→Heap→Prop):Prop where
 mem:it ∈ fp
 obj:∀ i h,tn i h→∀ b ∈ fp,∃ o,h.get? b=some o∧∀ v,o.data ≠ .cell v
 keep:∀ i h h',tn i h→(∀ b ∈ fp,∀ o,h.get? b=some o→h'.get? b=some o)→tn i h'
 item:∀ (X:Cx),X.prog=P→X.w=w→X.K=K→X.calm=true→∀ (i:Nat) (pins:List (Addr × Obj)) (s:Shared) (σ:St) (H:Hp) (E:Value→Shared→Prop),Inv X pins σ H s→(∀ b ∈ fp,FpOk X pins H b)→tn i s.heap→J.go i H →
  wpAny (model P w) X.A (pyNext (.ref it)) (fun r s1=>∃ u,r=some u ∧
   wpAny (model P w) X.A (letOwnedTupleGo tg (.ref it) u) (fun _ s2=>∃ x H',Inv X pins σ H' s2∧RelV x u∧J.yld i H x H'∧tn (i + 1) s2.heap∧∀ b ∈ fp,H' b=none) E s1) E s
 done:∀ (X:Cx),X.prog=P→X.w=w→X.K=K→X.calm=true→∀ (i:Nat) (pins:List (Addr × Obj)) (s:Shared) (σ:St) (H:Hp) (E:Value→Shared→Prop),Inv X pins σ H s→(∀ b ∈ fp,FpOk X pins H b)→tn i s.heap→J.stop i H →
  wpAny (model P w) X.A (pyNext (.ref it)) (fun r s1=>r=none∧Inv X pins σ H s1) E s
 self:∀ (A:Around) (i:Nat) (s:Shared) (Q:Value→Shared→Prop) (E:Value→Shared→Prop),tn i s.heap→Q (.ref it) s→wpAny (model P w) A (pyIter (.ref it)) Q E s
abbrev TI:=St→Hp→(It→Hp→Prop)→Prop
def PIE (X:Cx) (pins:List (Addr × Obj)) (σ:St) (tg:Expr) (R:It→Hp→Prop) (itv:Value) (s2:Shared):Prop :=
 ∃ (it:Addr) (fp:List Addr) (tn:Nat→Heap→Prop) (J:It) (H':Hp),itv = .ref it∧Inv X pins σ H' s2∧Turn X.prog X.w X.K tg J fp it tn∧tn 0 s2.heap∧(∀ b ∈ fp,FpOk X pins H' b)∧R J H'
def PI (X:Cx) (tg iter:Expr) (wi:TI):Prop :=
 ∀ (pins:List (Addr × Obj)) (s:Shared) (σ:St) (H:Hp) (R:It→Hp→Prop),Inv X pins σ H s→wi σ H R →
  wpAny (model X.prog X.w) X.A (eval iter X.env) (fun v s1=>wpAny (model X.prog X.w) X.A (pyIter v) (PIE X pins σ tg R) X.xe s1) X.xe s
theorem zjN {M:Model} {A:Around} {E:Value→Shared→Prop} {s:Shared} {tg:Expr} {it:Addr} {u:Value} {o:Obj} {n:String} {vs:Array Value} {Q:Unit→Shared→Prop} (ho:s.heap.get? it=some o) (hc:o.cls = .type n) (hd:o.data = .fields vs)
  (hn : ["enumerate", "zip", "dict_itemiterator", "dict_reverseitemiterator", "odict_iterator", "itertools.zip_longest", "itertools.pairwise"].contains n=false) (hQ:Q () s):wpAny M A (letOwnedTupleGo tg (.ref it) u) Q E s:=by
 unfold letOwnedTupleGo
 cases tg <;> first
  | exact wpAny_pure hQ
  | (cases u <;> first
    | exact wpAny_pure hQ
    | (refine wpAny_bind (wpAny_load ho ?_)
       rw [hc,hd]
       show wpAny M A (if (["enumerate", "zip", "dict_itemiterator", "dict_reverseitemiterator", "odict_iterator", "itertools.zip_longest", "itertools.pairwise"].contains n && vs[0]? == some (rawInt _))=true then _ else _) Q E s
       rw [if_neg (by intro h;rw [hn,Bool.false_and] at h;cases h)]
       exact wpAny_pure hQ))
def Itl (K:PySem.W.Frag) (a:Addr):It :=
 ⟨fun i H=>∃ xs x,SqL K H a xs∧xs[i]? = some x,fun i H x H'=>H'=H∧∀ xs,SqL K H a xs→xs[i]? = some x,fun i H=>∃ xs,SqL K H a xs∧xs.length ≤ i⟩
def Itt (K:PySem.W.Frag) (a:Addr):It :=
 ⟨fun i H=>∃ xs x,SqT K H a xs∧xs[i]? = some x,fun i H x H'=>H'=H∧∀ xs,SqT K H a xs→xs[i]? = some x,fun i H=>∃ xs,SqT K H a xs∧xs.length ≤ i⟩
def Itr (lo:Int) (n:Nat):It:=⟨fun i _=>i < n,fun i H x H'=>H'=H∧x = .int (lo + i),fun i _=>n ≤ i⟩
theorem zis {P:Program} {w:World} {K:PySem.W.Frag} {tg:Expr} (a it:Addr):Turn P w K tg (Itl K a) [it] it (fun i h=>h.IsListIter it a i) where
 mem:=by simp
 obj:=fun i h st b hb=>by
  have e:b=it:=by simpa using hb
  subst e
  obtain ⟨o,e,c,d⟩:=st
  exact ⟨o,e,fun v z=>by rw [d] at z;cases z⟩
 keep:=fun i h h' st k=>st.at fun o e=>k it (by simp) o e
 item:=by
  intro X hP hw hK hc i pins s σ H E I hf st hg
  subst hP hw hK
  obtain ⟨xs,x,hq,hx⟩:=hg
  obtain ⟨its,rv,p,hz⟩:=I.list hq
  obtain ⟨u,hu,ru⟩:=rv.get hx
  obtain ⟨f0,f1,f2,f3,f4,f5⟩:=hf it (by simp)
  refine wpAny_pyNext_list_item st p.isList (x:=u) (by simpa using hu) fun h' st' sb=>?_
  have I1:Inv X pins σ H { s with heap:=h' }:=I.turned (t':=s.toks) (fun b o hb e=>(sb.2 b hb).trans e) f0 f1 f3 f4 f5
  obtain ⟨o,e,c,d⟩:=id st'
  exact ⟨u,rfl,zjN (s:={ s with heap:=h' }) e c d (by decide) ⟨x,H,I1,ru,⟨rfl,fun ys hy=>by rw [I.zhp hy hq];exact hx⟩,st',fun b hb=>(hf b hb).1⟩⟩
 done:=by
  intro X hP hw hK hc i pins s σ H E I hf st hg
  subst hP hw hK
  obtain ⟨xs,hq,hx⟩:=hg
  obtain ⟨its,rv,p,hz⟩:=I.list hq
  obtain ⟨f0,f1,f2,f3,f4,f5⟩:=hf it (by simp)
  have hl:=rv.length
  exact wpAny_pyNext_list_end (I.ok.hd hc) st p.isList (by simp;omega) fun h' eb=>⟨rfl,I.turned (t':=s.toks) (fun b o hb e=>eb b o hb e) f0 f1 f3 f4 f5⟩
 self:=fun _ _ _ _ _ st h=>wpAny_pyIter_listiter st h
theorem zh2 {P:Program} {w:World} {K:PySem.W.Frag} {tg:Expr} (a it:Addr):Turn P w K tg (Itt K a) [it] it (fun i h=>h.IsTupleIter it a i) where
 mem:=by simp
 obj:=fun i h st b hb=>by
  have e:b=it:=by simpa using hb
  subst e
  obtain ⟨o,e,c,d⟩:=st
  exact ⟨o,e,fun v z=>by rw [d] at z;cases z⟩
 keep:=fun i h h' st k=>st.at fun o e=>k it (by simp) o e
 item:=by
  intro X hP hw hK hc i pins s σ H E I hf st hg
  subst hP hw hK
  obtain ⟨xs,x,hq,hx⟩:=hg
  obtain ⟨its,rv,p,hz⟩:=I.tuple hq
  obtain ⟨u,hu,ru⟩:=rv.get hx
  obtain ⟨f0,f1,f2,f3,f4,f5⟩:=hf it (by simp)
  refine wpAny_pyNext_tuple_item st (show s.heap.IsTuple a its.toArray from p) (x:=u) (by simpa using hu) fun h' st' sb=>?_
  have I1:Inv X pins σ H { s with heap:=h' }:=I.turned (t':=s.toks) (fun b o hb e=>(sb.2 b hb).trans e) f0 f1 f3 f4 f5
  obtain ⟨o,e,c,d⟩:=id st'
  exact ⟨u,rfl,zjN (s:={ s with heap:=h' }) e c d (by decide) ⟨x,H,I1,ru,⟨rfl,fun ys hy=>by rw [I.ziH hy hq];exact hx⟩,st',fun b hb=>(hf b hb).1⟩⟩
 done:=by
  intro X hP hw hK hc i pins s σ H E I hf st hg
  subst hP hw hK
  obtain ⟨xs,hq,hx⟩:=hg
  obtain ⟨its,rv,p,hz⟩:=I.tuple hq
  obtain ⟨f0,f1,f2,f3,f4,f5⟩:=hf it (by simp)
  have hl:=rv.length
  exact wpAny_pyNext_tuple_end (I.ok.hd hc) st (show s.heap.IsTuple a its.toArray from p) (by simp;omega) fun h' eb=>⟨rfl,I.turned (t':=s.toks) (fun b o hb e=>eb b o hb e) f0 f1 f3 f4 f5⟩
 self:=fun _ _ _ _ _ st h=>wpAny_pyIter_tupleiter st h
theorem zh8 {P:Program} {w:World} {K:PySem.W.Frag} {tg:Expr} (it:Addr) (lo:Int) (n:Nat):Turn P w K tg (Itr lo n) [it] it (fun i h=>IsRangeIter h it (lo + (i:Nat) * 1) ((n:Int) - (i:Nat)) 1) where
 mem:=by simp
 obj:=fun i h st b hb=>by
  have e:b=it:=by simpa using hb
  subst e
  exact ⟨_,st,fun v z=>by
   have z':Data.fields _=Data.cell v:=z
   cases z'⟩
 keep:=fun i h h' st k=>k it (by simp) _ st
 item:=by
  intro X hP hw hK hc i pins s σ H E I hf st hg
  subst hP hw hK
  obtain ⟨f0,f1,f2,f3,f4,f5⟩:=hf it (by simp)
  have W:=Walks.range (prog:=X.prog) (w:=X.w) (I.ok.hd hc) it lo 1 n
  refine W.item i s _ _ hg st fun v h' tk hv st' kk=>?_
  obtain ⟨t,rfl⟩:=hv
  have I1:Inv X pins σ H { s with heap:=h',toks:=tk }:=I.turned (fun b o hb e=>kk b o (by simpa using hb) e) f0 f1 f3 f4 f5
  refine ⟨_,rfl,zjN (s:={ s with heap:=h',toks:=tk }) (n := "range_iterator") st' rfl rfl (by decide) ⟨.int (lo + i),H,I1,⟨t,?_⟩,⟨rfl,rfl⟩,st',fun b hb=>(hf b hb).1⟩⟩
  rw [Int.mul_one]
 done:=by
  intro X hP hw hK hc i pins s σ H E I hf st hg
  subst hP hw hK
  obtain ⟨f0,f1,f2,f3,f4,f5⟩:=hf it (by simp)
  exact wpAny_pyNext_range_end (I.ok.hd hc) st (by have:n ≤ i:=hg;omega) fun h' eb=>⟨rfl,I.turned (t':=s.toks) (fun b o hb e=>eb b o hb e) f0 f1 f3 f4 f5⟩
 self:=fun _ _ _ _ _ st h=>wpAny_pyIter_rangeiter st h
end L2
namespace L2
open PySem PySem.Spec PyProof.Rows
section
variable {X:Cx} {tg:Expr}
theorem zjR {pins:List (Addr × Obj)} {σ:St} {H:Hp} {s:Shared} {R:It→Hp→Prop} {E:Value→Shared→Prop} {lo hi:Int} {t u v:Tok} {tk:Nat} (I:Inv X pins σ H s) (h1 : -(2 ^ 62) ≤ lo) (h2:lo < 2 ^ 62) (h3 : -(2 ^ 62) ≤ hi) (h4:hi < 2 ^ 62)
  (q:R (Itr lo (hi - lo).toNat) H):wpAny (model X.prog X.w) X.A (pyIter (.ref s.heap.objs.size)) (PIE X pins σ tg R) E { s with heap:=s.heap.push { cls := .type "range",data := .fields #[.int lo t, .int hi u, .int 1 v] },toks:=tk }:=by
 refine wpAny_pyIter_range (IsRange.new ..) (small_one h1 h2 h3 h4) ?_
 have I1:Inv X pins σ H { s with heap:=s.heap.push { cls := .type "range",data := .fields #[.int lo t, .int hi u, .int 1 v] },toks:=tk }:=I.kept fun b o e=>Heap.get?_push_of_some _ e
 refine ⟨(s.heap.push { cls := .type "range",data := .fields #[.int lo t, .int hi u, .int 1 v] }).objs.size,[(s.heap.push { cls := .type "range",data := .fields #[.int lo t, .int hi u, .int 1 v] }).objs.size],_,_,H,rfl,
  I1.kept (t':=tk) fun b o e=>Heap.get?_push_of_some _ e,zh8 _ lo (hi - lo).toNat,?_,fun b hb=>?_,q⟩
 ·have e1:lo + ((0:Nat):Int) * 1=lo:=by simp
  have e2:(((hi - lo).toNat:Nat):Int) - ((0:Nat):Int)=Builtin.Range.rangeSize lo hi 1:=by rw [rangeSize_one];split <;> omega
  show IsRangeIter _ _ (lo + ((0:Nat):Int) * 1) ((((hi - lo).toNat:Nat):Int) - ((0:Nat):Int)) 1
  rw [e1,e2]
  exact Heap.get?_push_size _ rfl
 ·have e:b=(s.heap.push { cls := .type "range",data := .fields #[.int lo t, .int hi u, .int 1 v] }).objs.size:=by simpa using hb
  subst e
  exact I1.fpOk (Nat.le_refl _) (I1.hok.fresh (Nat.le_refl _))
def zoy (ta:TA):TI:=fun σ H R=>ta σ H fun vs H1=>∃ j:Int,vs=[.int j]∧-(2 ^ 62) ≤ j∧j < 2 ^ 62∧R (Itr 0 j.toNat) H1
theorem zil {a:Expr} {ta:TA} {p pos:Pos} (hg:Gl X "range") (hm:X.mg "range" = none) (ha:PA X [a] ta) (hs:starEach [a] X.env=[(false,eval a X.env)]:=by rfl):PI X tg (.Call (.Name "range" p) [a] [] pos) (zoy ta):=by
 intro pins s σ H R I h
 refine Call_ (zhj I hg hm boot_range (PyProof.Rows.callWith_type1 (thn (ha pos pins s σ H _ I h) fun us s1 ⟨vs,H1,I1,r1,q1⟩=>?_) hs rfl))
 obtain ⟨j,e,q1,q2,q⟩:=q1
 subst e
 cases r1 with
 | cons r rr =>
  cases rr
  obtain ⟨t,rfl⟩:=r
  exact call_range_1 (zjR I1 (by omega) (by omega) q1 q2 (by simpa using q))
def tFor (wi:TI) (g:TG) (tb:TS):TS:=fun D σ H=>wi σ H fun J H1=>∃ W:Nat→Nat→St→Hp→Prop,(∃ m,W 0 m σ H1)∧∀ i m σ H,W i m σ H →
 (J.stop i H∧D.nx σ H)∨(J.go i H∧∃ N:St→Hp→Prop,(∀ σ' H',N σ' H'→∃ m',m' < m∧W (i + 1) m' σ' H')∧∀ x H',J.yld i H x H'→g x σ H' fun σ2 H2=>tb { D with nx:=N,ct:=N,bk:=D.nx } σ2 H2)
def zgF (fp:List Addr) (h:Heap):List (Addr × Obj):=fp.filterMap fun b=>(h.get? b).map fun o=>(b,o)
theorem zc8 {fp:List Addr} {h:Heap} {b:Addr} {o:Obj} (hb:b ∈ fp) (e:h.get? b=some o):(b,o) ∈ zgF fp h:=List.mem_filterMap.mpr ⟨b,hb,by rw [e];rfl⟩
theorem zjh {fp:List Addr} {h:Heap} {p:Addr × Obj} (hp:p ∈ zgF fp h):p.1 ∈ fp∧h.get? p.1=some p.2:=by
 obtain ⟨b,hb,e⟩:=List.mem_filterMap.mp hp
 cases q:h.get? b with
 | none=>rw [q] at e;cases e
 | some o =>
  rw [q] at e
  have e':(b,o)=p:=Option.some.inj e
  subst e'
  exact ⟨hb,q⟩
theorem Inv.pinned {pins:List (Addr × Obj)} {σ:St} {H:Hp} {s:Shared} {fp:List Addr} (I:Inv X pins σ H s) (hf:∀ b ∈ fp,FpOk X pins H b) (ho:∀ b ∈ fp,∃ o,s.heap.get? b=some o∧∀ v,o.data ≠ .cell v):Inv X (pins ++ zgF fp s.heap) σ H s :=
 I.zgY fun p hp=>(List.mem_append.mp hp).elim (fun z=>I.pin p (List.mem_append_right _ z)) fun z=>by
  obtain ⟨hb,e⟩:=zjh z
  obtain ⟨f0,f1,f2,_⟩:=hf p.1 hb
  obtain ⟨o,e',d⟩:=ho p.1 hb
  rw [e] at e';cases e'
  exact ⟨e,f0,f1,f2,d⟩
theorem Inv.zen {pins pl:List (Addr × Obj)} {σ:St} {H:Hp} {s:Shared} (I:Inv X (pins ++ pl) σ H s):Inv X pins σ H s:=I.zgY fun p hp=>I.pin p (List.mem_append_right _ (List.mem_append_left _ hp))
theorem znO {iter:Expr} {body:List Stmt} {wi:TI} {g:TG} {tb:TS} {pos:Pos} (hp:PassesOwn (model X.prog X.w) X.A X.env X.xe) (hc:X.calm=true) (hi:PI X tg iter wi) (hg:PG X tg g) (hb:PSs X body tb)
  (hs:∀ x,foldedSetIterable iter X.env x=pure x:=by intro _;rfl):PS X (.For tg iter body [] pos) (tFor wi g tb):=by
 intro pins s σ H D I h
 refine wpAny_For (thn (hi pins s σ H _ I h) fun v s1 h1=>thn h1 fun itv s2 h2=>?_) hs
 obtain ⟨it,fp,tn,J,H2,e,I2,T,st2,f2,W,⟨m0,w0⟩,turn⟩:=h2
 subst e
 have stat:∀ {H':Hp},(∀ b ∈ fp,H' b=none)→∀ b ∈ fp,FpOk X pins H' b:=fun hn b hb=>⟨hn b hb,(f2 b hb).2⟩
 refine codeAny_forLoop_any (fun n s'=>∃ i σ' H',Inv X pins σ' H' s'∧tn i s'.heap∧(∀ b ∈ fp,H' b=none)∧W i n σ' H') ?_ m0 ⟨0,σ,H2,I2,st2,fun b hb=>(f2 b hb).1,w0⟩
 rintro n s3 ⟨i,σ3,H3,I3,st3,fr3,w3⟩
 rcases turn i n σ3 H3 w3 with ⟨stop,qn⟩ | ⟨go,N,hN,step⟩
 ·refine wpAny_passesOwn hp (thn (T.done X rfl rfl rfl hc i pins s3 σ3 H3 X.xe I3 (stat fr3) st3 stop) fun r s4 ⟨hr,I4⟩=>?_)
  subst hr
  exact wpAny_execs_nil ⟨σ3,H3,I4,qn⟩
 ·refine wpAny_passesOwn hp (thn (T.item X rfl rfl rfl hc i pins s3 σ3 H3 X.xe I3 (stat fr3) st3 go) fun r s4 ⟨u,hr,h4⟩=>?_)
  subst hr
  refine wpAny_passesOwn hp (thn h4 fun _ s5 ⟨x,H5,I5,r5,y5,st5,fr5⟩=>?_)
  have I5':=I5.pinned (stat fr5) (T.obj _ _ st5)
  refine wpAny_passesOwn hp (thn (hg _ s5 σ3 H5 x u _ I5' r5 (step x H5 y5)) fun _ s6 ⟨σ6,H6,I6,q6⟩=>?_)
  refine wpAny_passesOwn hp (thn (hb _ s6 σ6 H6 _ I6 q6) fun f s7 q7=>?_)
  have again:∀ {σ7:St} {H7:Hp},Inv X (pins ++ zgF fp s5.heap) σ7 H7 s7→N σ7 H7→∃ m,m < n∧∃ i σ' H',Inv X pins σ' H' s7∧tn i s7.heap∧(∀ b ∈ fp,H' b=none)∧W i m σ' H':=fun {σ7 H7} I7 n7=>by
   obtain ⟨m',hm,w7⟩:=hN σ7 H7 n7
   refine ⟨m',hm,i + 1,σ7,H7,I7.zen,T.keep _ _ _ st5 fun b hb o e=>(I7.pin (b,o) (List.mem_append_right _ (List.mem_append_right _ (zc8 hb e)))).1,fun b hb=>?_,w7⟩
   obtain ⟨o,e,d⟩:=T.obj _ _ st5 b hb
   exact (I7.pin (b,o) (List.mem_append_right _ (List.mem_append_right _ (zc8 hb e)))).2.1
  cases f with
  | next=>obtain ⟨σ7,H7,I7,n7⟩:=q7;exact again I7 n7
  | cont=>obtain ⟨σ7,H7,I7,n7⟩:=q7;exact again I7 n7
  | brk=>obtain ⟨σ7,H7,I7,q7⟩:=q7;exact ⟨σ7,H7,I7.zen,q7⟩
  | ret v=>obtain ⟨x7,σ7,H7,I7,r7,q7⟩:=q7;exact ⟨x7,σ7,H7,I7.zen,r7,q7⟩
end
end L2
namespace L2
open PySem PySem.Spec PyProof.Rows
abbrev R2:=V→V→Hp→VK→Prop
def OpR (X:Cx) (f:Value→Value→Sem Value) (r:R2):Prop :=
 ∀ (pins:List (Addr × Obj)) (s:Shared) (σ:St) (H:Hp) (x y:V) (v u:Value) (Q:VK),Inv X pins σ H s→RelV x v→RelV y u→r x y H Q →
  wpAny (model X.prog X.w) X.A (f v u) (EP X pins σ Q) X.xe s
def UnR (X:Cx) (f:Value→Sem Value) (r:V→Hp→VK→Prop):Prop :=
 ∀ (pins:List (Addr × Obj)) (s:Shared) (σ:St) (H:Hp) (x:V) (v:Value) (Q:VK),Inv X pins σ H s→RelV x v→r x H Q →
  wpAny (model X.prog X.w) X.A (f v) (EP X pins σ Q) X.xe s
def zeh (X:Cx) (f:Value) (r:List V→Hp→VK→Prop):Prop :=
 ∀ (pins:List (Addr × Obj)) (s:Shared) (σ:St) (H:Hp) (xs:List V) (us:List Value) (Q:VK),Inv X pins σ H s→Vals xs us→r xs H Q →
  wpAny (model X.prog X.w) X.A (call f us) (EP X pins σ Q) X.xe s
def tOp (r:R2) (ta tb:TE):TE:=fun σ H Q=>ta σ H fun x H1=>tb σ H1 fun y H2=>r x y H2 Q
def tUn (r:V→Hp→VK→Prop) (ta:TE):TE:=fun σ H Q=>ta σ H fun x H1=>r x H1 Q
def rI (C:Int→Int→Prop) (g:Int→Int→V):R2:=fun x y H Q=>∃ i j,x = .int i∧y = .int j∧C i j∧Q (g i j) H
def rI0 (g:Int→Int→V):R2:=fun x y H Q=>∃ i j,x = .int i∧y = .int j∧Q (g i j) H
def rU (g:Int→V):V→Hp→VK→Prop:=fun x H Q=>∃ i,x = .int i∧Q (g i) H
section
variable {X:Cx} {a b c:Expr} {ta tb tc:TE} {pos:Pos}
theorem binT (ha:PE X a ta) (hb:PE X b tb) {pins:List (Addr × Obj)} {s:Shared} {σ:St} {H:Hp} {R:V→V→Hp→Prop} (I:Inv X pins σ H s)
  (h:ta σ H fun x H1=>tb σ H1 fun y H2=>R x y H2) {Q:Value→Shared→Prop} {f:Value→Value→Sem Value}
  (hf:∀ v u s2 x y H2,Inv X pins σ H2 s2→RelV x v→RelV y u→R x y H2→wpAny (model X.prog X.w) X.A (f v u) Q X.xe s2) :
  wpAny (model X.prog X.w) X.A (eval a X.env) (fun v s₁=>wpAny (model X.prog X.w) X.A (eval b X.env) (fun u s₂=>wpAny (model X.prog X.w) X.A (f v u) Q X.xe s₂) X.xe s₁) X.xe s:=by
 refine thn (ha pins s σ H _ I h) fun v s1 ⟨x,H1,I1,r1,q1⟩=>?_
 refine thn (hb pins s1 σ H1 _ I1 q1) fun u s2 ⟨y,H2,I2,r2,q2⟩=>?_
 exact hf v u s2 x y H2 I2 r1 r2 q2
theorem zn8 {op:Operator} {r:R2} (ho:OpR X (binaryOp op) r) (ha:PE X a ta) (hb:PE X b tb):PE X (.BinOp a op b pos) (tOp r ta tb):=by
 intro pins s σ H Q I h
 exact wpAny_BinOp (binT ha hb I h fun v u s2 x y H2 I2 rx ry q=>ho pins s2 σ H2 x y v u Q I2 rx ry q)
theorem zod {op:UnaryOp} {r:V→Hp→VK→Prop} (ho:UnR X (unaryOp op) r) (ha:PE X a ta):PE X (.UnaryOp op a pos) (tUn r ta):=by
 intro pins s σ H Q I h
 exact UnaryOp_ (thn (ha pins s σ H _ I h) fun v s1 ⟨x,H1,I1,r1,q1⟩=>ho pins s1 σ H1 x v Q I1 r1 q1)
theorem opI {f:Value→Value→Sem Value} {C:Int→Int→Prop} {g:Int→Int→Int}
  (rule:∀ (i j:Int) (t u:Tok) (s:Shared) (Q:Value→Shared→Prop) (E:Value→Shared→Prop),C i j→Q (.int (g i j) s.toks) { s with toks:=s.toks + 1 }→wpAny (model X.prog X.w) X.A (f (.int i t) (.int j u)) Q E s) :
  OpR X f (rI C fun i j => .int (g i j)):=by
 intro pins s σ H x y v u Q I rx ry h
 obtain ⟨i,j,rfl,rfl,hc,q⟩:=h
 obtain ⟨t,rfl⟩:=rx
 obtain ⟨t',rfl⟩:=ry
 exact rule i j t t' s _ _ hc ⟨.int (g i j),H,I.tok _,⟨_,rfl⟩,q⟩
theorem opI0 {f:Value→Value→Sem Value} {g:Int→Int→Int}
  (rule:∀ (i j:Int) (t u:Tok) (s:Shared) (Q:Value→Shared→Prop) (E:Value→Shared→Prop),Q (.int (g i j) s.toks) { s with toks:=s.toks + 1 }→wpAny (model X.prog X.w) X.A (f (.int i t) (.int j u)) Q E s) :
  OpR X f (rI0 fun i j => .int (g i j)):=by
 intro pins s σ H x y v u Q I rx ry h
 obtain ⟨i,j,rfl,rfl,q⟩:=h
 obtain ⟨t,rfl⟩:=rx
 obtain ⟨t',rfl⟩:=ry
 exact rule i j t t' s _ _ ⟨.int (g i j),H,I.tok _,⟨_,rfl⟩,q⟩
theorem opB0 {f:Value→Value→Sem Value} {g:Int→Int→Bool}
  (rule:∀ (i j:Int) (t u:Tok) (s:Shared) (Q:Value→Shared→Prop) (E:Value→Shared→Prop),Q (.bool (g i j)) s→wpAny (model X.prog X.w) X.A (f (.int i t) (.int j u)) Q E s) :
  OpR X f (rI0 fun i j => .bl (g i j)):=by
 intro pins s σ H x y v u Q I rx ry h
 obtain ⟨i,j,rfl,rfl,q⟩:=h
 obtain ⟨t,rfl⟩:=rx
 obtain ⟨t',rfl⟩:=ry
 exact rule i j t t' s _ _ ⟨.bl (g i j),H,I,rfl,q⟩
def CDiv (i j:Int):Prop:=0 < j∧j < 1073741824
def CPow (i j:Int):Prop:=0 ≤ j∧j ≤ 1000000∧i.natAbs < 2 ^ 64
def CMul (i j:Int):Prop:=(-(2 ^ 64) < i∧i < 2 ^ 64)∨(-(2 ^ 64) < j∧j < 2 ^ 64)
theorem CMul.ok {i j:Int} (h:CMul i j):IntMulOk i j:=by
 rcases h with ⟨h1,h2⟩ | ⟨h1,h2⟩
 ·exact .of_left (intBits_le_64 h1 h2)
 ·exact .of_right (intBits_le_64 h1 h2)
theorem zny:OpR X (binaryOp .Add) (rI0 fun i j => .int (i + j)):=opI0 fun _ _ _ _ _ _ _ q=>add_int q
theorem zmI:OpR X (binaryOp .Sub) (rI0 fun i j => .int (i - j)):=opI0 fun _ _ _ _ _ _ _ q=>sub_int q
theorem znI:OpR X (binaryOp .Mult) (rI CMul fun i j => .int (i * j)):=opI fun _ _ _ _ _ _ _ hc q=>mul_int q hc.ok
theorem zlf:OpR X (binaryOp .FloorDiv) (rI CDiv fun i j => .int (i / j)):=opI fun i j _ _ _ _ _ hc q=>by
 have h1:(0:Int) < j:=hc.1
 have h2:j < 1073741824:=hc.2
 exact floordiv_int (by omega) (by rw [Int.fdiv_eq_ediv_of_nonneg i (by omega)];exact q) (.inl (PyProof.noPylong_small (by omega)))
theorem zm2:OpR X (binaryOp .Mod) (rI (fun _ j=>0 < j) fun i j => .int (i % j)):=opI fun i j _ _ _ _ _ hc q=>by
 have h1:(0:Int) < j:=hc
 exact mod_int' (by omega) (by rw [Int.fmod_eq_emod_of_nonneg i (by omega)];exact q)
theorem znm:OpR X (binaryOp .Pow) (rI CPow fun i j => .int (i ^ j.toNat)):=opI fun _ _ _ _ _ _ _ hc q=>pow_int_small hc.1 hc.2.1 hc.2.2 q
theorem unI {f:Value→Sem Value} {g:Int→Int}
  (rule:∀ (i:Int) (t:Tok) (s:Shared) (Q:Value→Shared→Prop) (E:Value→Shared→Prop),Q (.int (g i) s.toks) { s with toks:=s.toks + 1 }→wpAny (model X.prog X.w) X.A (f (.int i t)) Q E s) :
  UnR X f (rU fun i => .int (g i)):=by
 intro pins s σ H x v Q I rx h
 obtain ⟨i,rfl,q⟩:=h
 obtain ⟨t,rfl⟩:=rx
 exact rule i t s _ _ ⟨.int (g i),H,I.tok _,⟨_,rfl⟩,q⟩
theorem zm3:UnR X (unaryOp .USub) (rU fun i => .int (-i)):=unI fun _ _ _ _ _ q=>neg_int q
end
section
variable {X:Cx} {a b c:Expr} {ta tb tc:TE} {pos:Pos}
theorem zof:OpR X (compareOp .Lt) (rI0 fun i j => .bl (decide (i < j))):=opB0 fun _ _ _ _ _ _ _ q=>lt_int q
theorem zn4:OpR X (compareOp .LtE) (rI0 fun i j => .bl (decide (i ≤ j))):=opB0 fun _ _ _ _ _ _ _ q=>le_int q
theorem zoI:OpR X (compareOp .Gt) (rI0 fun i j => .bl (decide (j < i))):=opB0 fun _ _ _ _ _ _ _ q=>gt_int q
theorem zoo:OpR X (compareOp .GtE) (rI0 fun i j => .bl (decide (j ≤ i))):=opB0 fun _ _ _ _ _ _ _ q=>ge_int q
theorem OpR.or {f:Value→Value→Sem Value} {r r':R2} (h:OpR X f r) (h':OpR X f r'):OpR X f (fun x y H Q=>r x y H Q∨r' x y H Q):=by
 intro pins s σ H x y v u Q I rx ry q
 rcases q with q | q
 ·exact h pins s σ H x y v u Q I rx ry q
 ·exact h' pins s σ H x y v u Q I rx ry q
theorem zbk (b:Expr) {op:CmpOp} (h:op ≠ .In:=by decide) (h2:op ≠ .NotIn:=by decide):behindInMarks op b=false:=by
 have e1:(op == CmpOp.In)=false:=by cases op <;> first | rfl | exact absurd rfl h
 have e2:(op == CmpOp.NotIn)=false:=by cases op <;> first | rfl | exact absurd rfl h2
 cases b <;> simp [behindInMarks,e1,e2]
theorem zmd {op:CmpOp} {r:R2} (ho:OpR X (compareOp op) r) (ha:PE X a ta) (hb:PE X b tb) (hm:behindInMarks op b=false):PE X (.Compare a [op] [b] pos) (tOp r ta tb):=by
 intro pins s σ H Q I h
 exact wpAny_Compare1 (binT ha hb I h fun v u s2 x y H2 I2 rx ry q=>ho pins s2 σ H2 x y v u Q I2 rx ry q) hm
def znt (t:TE):TT:=fun σ H Q=>t σ H fun x H'=>∃ k,x = .bl k∧Q k H'
theorem zlh {op:CmpOp} {r:R2} (ho:OpR X (compareOp op) r) (ha:PE X a ta) (hb:PE X b tb) (hm:behindInMarks op b=false):PT X (.Compare a [op] [b] pos) (znt (tOp r ta tb)):=by
 intro pins s σ H Q I h
 refine wpAny_isTrue_Compare1 (thn (ha pins s σ H _ I h) fun v s1 ⟨x,H1,I1,r1,q1⟩=>thn (hb pins s1 σ H1 _ I1 q1) fun u s2 ⟨y,H2,I2,r2,q2⟩ =>
  thn (ho pins s2 σ H2 x y v u _ I2 r1 r2 q2) fun c s3 ⟨z,H3,I3,r3,k,e,q3⟩=>?_) hm
 subst e
 cases r3
 exact wpAny_truthy_bool ⟨H3,I3,q3⟩
def zkE (r r':R2) (ta tb tc:TE):TE:=fun σ H Q=>ta σ H fun x H1=>tb σ H1 fun y H2=>r x y H2 fun z H3=>∃ k,z = .bl k ∧
 (if k=true then tc σ H3 fun w' H4=>r' y w' H4 Q else Q (.bl false) H3)
theorem zjQ {op op':CmpOp} {r r':R2} (ho:OpR X (compareOp op) r) (ho':OpR X (compareOp op') r') (ha:PE X a ta) (hb:PE X b tb) (hc:PE X c tc)
  (hm:lastMarks [op,op'] [b,c]=false:=by with_unfolding_all rfl):PE X (.Compare a [op,op'] [b,c] pos) (zkE r r' ta tb tc):=by
 intro pins s σ H Q I h
 refine Compare_chain (thn (ha pins s σ H _ I h) fun v s1 ⟨x,H1,I1,r1,q1⟩=>chain_link (thn (hb pins s1 σ H1 _ I1 q1) fun u s2 ⟨y,H2,I2,r2,q2⟩ =>
  thn (ho pins s2 σ H2 x y v u _ I2 r1 r2 q2) fun d s3 ⟨z,H3,I3,r3,k,e,q3⟩=>?_)) hm
 subst e
 cases r3
 refine wpAny_truthy_bool ?_
 cases k with
 | false=>exact ite_ff ⟨.bl false,H3,I3,rfl,q3⟩
 | true=>exact ite_tt (chain_last (thn (hc pins s3 σ H3 _ I3 q3) fun w' s4 ⟨z',H4,I4,r4,q4⟩=>ho' pins s4 σ H4 y z' u w' Q I4 r2 r4 q4))
theorem zgr:(sizeLine:Nat) < 2 ^ 63:=by rw [sizeLine_eq];decide
theorem vals1 {x:V} {us:List Value} (r:Vals [x] us):∃ u,us=[u]∧RelV x u:=by
 cases r with
 | cons r1 r2=>cases r2;exact ⟨_,rfl,r1⟩
theorem vals2 {x y:V} {us:List Value} (r:Vals [x,y] us):∃ u w',us=[u,w']∧RelV x u∧RelV y w':=by
 cases r with
 | cons r1 r2 =>
  cases r2 with
  | cons r3 r4=>cases r4;exact ⟨_,_,rfl,r1,r3⟩
theorem ziV (hc:X.calm=true):zeh X (.builtin "max") (fun xs H Q=>∃ i j,xs=[.int i, .int j]∧Q (.int (if j > i then j else i)) H):=by
 intro pins s σ H xs us Q I r h
 obtain ⟨i,j,rfl,q⟩:=h
 obtain ⟨u,w',rfl,⟨t,rfl⟩,⟨t',rfl⟩⟩:=vals2 r
 refine max_two_ints (I.ok.hd hc) fun h' tk k=>⟨_,H,I.kept k,?_,q⟩
 by_cases hj:j > i
 ·rw [if_pos hj,if_pos hj];exact ⟨_,rfl⟩
 ·rw [if_neg hj,if_neg hj];exact ⟨_,rfl⟩
theorem zik (hc:X.calm=true):zeh X (.builtin "min") (fun xs H Q=>∃ i j,xs=[.int i, .int j]∧Q (.int (if j < i then j else i)) H):=by
 intro pins s σ H xs us Q I r h
 obtain ⟨i,j,rfl,q⟩:=h
 obtain ⟨u,w',rfl,⟨t,rfl⟩,⟨t',rfl⟩⟩:=vals2 r
 refine min_two_ints (I.ok.hd hc) fun h' tk k=>⟨_,H,I.kept k,?_,q⟩
 by_cases hj:j < i
 ·rw [if_pos hj,if_pos hj];exact ⟨_,rfl⟩
 ·rw [if_neg hj,if_neg hj];exact ⟨_,rfl⟩
end
end L2
namespace L2
open PySem PySem.Spec PyProof.Rows
structure ObjM (h:Heap) (x dx C:Addr) (mA:Str→Option Value):Prop where
 obj:h.get? x=some (PySem.W.instObj C dx)
 ns:h.Ns1 dx mA
 ne:dx ≠ x
theorem zi1 {h:Heap} {dx:Addr} {mA:Str→Option Value} (n:h.Ns1 dx mA):∃ od,h.get? dx=some od∧∀ name,PySem.W.lookIn name od=some (mA name):=by
 obtain ⟨o,es,ep,ho,hd,hk,_,hm⟩:=n
 refine ⟨o,ho,fun name=>?_⟩
 have e:=hm name
 unfold nsFind findBy at e
 rw [← Array.find?_toList] at e
 unfold PySem.W.lookIn
 rw [hd]
 dsimp only
 split
 ·rename_i y q
  rw [q] at e
  exact congrArg some e
 ·rename_i q
  rw [q] at e
  have a:es.toList.any (·.refKey)=false:=by
   rw [List.any_eq_false]
   intro y hy
   obtain ⟨z,t,hkey⟩:=hk y (Array.mem_toList_iff.mp hy)
   simp [DictEntry.refKey,hkey]
  have a':¬ es.toList.any (·.refKey)=true:=by rw [a];exact Bool.false_ne_true
  rw [if_neg a']
  exact congrArg some e
theorem ObjM.look {h:Heap} {x dx C:Addr} {mA:Str→Option Value} (I:ObjM h x dx C mA):∃ od,PySem.W.InstAt h x (PySem.W.instObj C dx) C (some od)∧∀ name,PySem.W.lookIn name od=some (mA name) :=
 let ⟨od,ho,hl⟩:=zi1 I.ns
 ⟨od,⟨I.obj,rfl,rfl,ho⟩,hl⟩
section
variable {prog:Program} {w:World} {A:Around} {E:Value→Shared→Prop} {s:Shared} {K:PySem.W.Frag} {x dx C f:Addr} {mA:Str→Option Value} {name:Str} {v:Value}
theorem get_map {expr:Bool} {Q:Value→Shared→Prop} (X:K.In s.heap) (I:ObjM s.heap x dx C mA) (hg:PySem.W.plainGet K C name=true) (hh:PySem.W.hasDictIn K C=true)
  (ha:PySem.W.findIn K (.ref C) name=some none) (hv:mA name=some v) (hv':PySem.W.handedIn v=true) (h:Q v { s with toks:=s.toks + 1 }) :
  wpAny (model prog w) A (getAttr (.ref x) name expr) Q E s:=by
 obtain ⟨od,J,hl⟩:=I.look
 exact PySem.W.get_value X J (PySem.W.plainGet_of hg).1 (PySem.W.findObj_own hh ha rfl (by rw [hl,hv])) hv' h
theorem zkd {pl:Sem Bool} {Q:Value × List Value→Shared→Prop} (X:K.In s.heap) (I:ObjM s.heap x dx C mA) (hg:PySem.W.plainGet K C name=true)
  (hf:PySem.W.findIn K (.ref C) name=some (some (.ref f))) (ht:PySem.W.isFn K (.ref f)=true) (hv:mA name=none) (h:Q (.ref f,[.ref x]) s) :
  wpAny (model prog w) A (getMethod (.ref x) name pl) Q E s:=by
 obtain ⟨od,J,hl⟩:=I.look
 exact PySem.W.method_fn X J (PySem.W.plainGet_of hg).1 (PySem.W.plainGet_of hg).2 hf (beq_iff_eq.mp ht) (by show (PySem.W.lookIn name od).map (·.isSome)=some false;rw [hl,hv];rfl) h
theorem zlp {ns:List Str} {Q:Unit→Shared→Prop} (X:K.In s.heap) (I:ObjM s.heap x dx C mA)
  (hs:PySem.W.findIn K (.ref C) "__setattr__" = some (some (.builtin "object.__setattr__"))) (hp:PySem.W.plainOver K C=true) (ht:PySem.W.takerIn K C name=some none) (hh:PySem.W.hasDictIn K C=true)
  (hw:PySem.Within mA ns) (hsz:ns.length ≤ sizeLine)
  (h:∀ h',ObjM h' x dx C (fun y=>if y=name then some v else mA y)→Heap.SameBut dx s.heap h'→Q () { s with heap:=h',toks:=s.toks + 2 }) :
  wpAny (model prog w) A (setAttr (.ref x) name v) Q E s:=by
 obtain ⟨od,J,hl⟩:=I.look
 refine PySem.W.set_plain X J hs (PySem.W.osa_open (s:={ s with toks:=s.toks + 1 }) (r:=none) X J hp ht fun b=>?_)
 obtain ⟨cd,hc,hd'⟩:=PySem.W.any_some hh
 have hx:s.heap.get? x=some ⟨.ref C,some dx, .plain,#[]⟩:=I.obj
 refine wpAny_bind (wpAny_pure (wpAny_bind (wpAny_bind (wpAny_loadPart hx (wpAny_bind (PySem.W.Looks.here (s:={ s with toks:=s.toks + 1 }) (PySem.W.looks_clsIn X hc) ?_))))))
 rw [hd']
 refine wpAny_pure (a:=some dx) (wpAny_bind (wpAny_pure (wpAny_bind ?_)))
 refine wpAny_nsSet1 (s:={ s with toks:=s.toks + 1 }) I.ns fun h' hn2 hs2=>?_
 obtain ⟨oD,esD,epD,hoD,hdD,hcD⟩:=hn2.count (PySem.Within.cons name v hw)
 refine wpAny_bind (wpAny_lookBehind hoD (by rw [hdD];exact pastItsLine_dict (Nat.le_trans hcD (by rw [List.length_cons];omega))) ?_)
 exact wpAny_pure (h _ ⟨(hs2.2 _ (Ne.symm I.ne)).trans I.obj,hn2,I.ne⟩ hs2)
theorem zjU {R:Result→Shared→Prop} {vs:List Value} {kw:List (Str × Value)} (X:K.In s.heap) (hm:PySem.W.makesIn K C=true)
  (hi:PySem.W.findIn K (.ref C) "__init__" = some (some (.ref f))) (hf:PySem.W.typeIn K (.ref f)=some (.type "function"))
  (h:codeAny (model prog w) (A.under (.builtin "type.__call__" ⟨.ref C :: vs,kw⟩)) (.call (.ref f) ⟨.ref (s.heap.objs.size + 1) :: vs,kw⟩) (PySem.W.InitBack (s.heap.objs.size + 1) R)
   { s with heap:=(s.heap.push PySem.W.emptyDict).push (PySem.W.instObj C s.heap.objs.size) }) :
  codeAny (model prog w) A (.call (.ref C) ⟨vs,kw⟩) R s:=by
 obtain ⟨hh,g,d,t,os⟩:=s
 exact PySem.W.make_core (PySem.W.makes_of X hm) (PySem.W.looks_findIn X hi) (fun self=>PySem.W.bind_fn X self hf) (.inl rfl) h
end
def putF (f:Str) (v:V):List (Str × V)→List (Str × V)
 | []=>[(f,v)]
 | (g,x) :: r=>if g=f then (g,v) :: r else (g,x) :: putF f v r
theorem zeH (f g:Str) (v:V):∀ fs:List (Str × V),(putF f v fs).lookup g=if g=f then some v else fs.lookup g
 | []=>by
  show List.lookup g [(f,v)]=_
  by_cases h:g=f
  ·have hb:(g == f)=true:=beq_iff_eq.mpr h
   simp only [List.lookup,hb,if_pos h]
  ·have hb:(g == f)=false:=beq_eq_false_iff_ne.mpr h
   simp only [List.lookup,hb,if_neg h]
 | (k,x) :: r=>by
  have ih:=zeH f g v r
  rw [show putF f v ((k,x) :: r)=(if k=f then (k,v) :: r else (k,x) :: putF f v r) from rfl]
  by_cases hk:k=f
  ·rw [if_pos hk]
   by_cases h:g=k
   ·have hb:(g == k)=true:=beq_iff_eq.mpr h
    simp only [List.lookup,hb,if_pos (h.trans hk)]
   ·have hb:(g == k)=false:=beq_eq_false_iff_ne.mpr h
    simp only [List.lookup,hb,if_neg (fun e:g=f=>h (e.trans hk.symm))]
  ·rw [if_neg hk]
   by_cases h:g=k
   ·have hb:(g == k)=true:=beq_iff_eq.mpr h
    simp only [List.lookup,hb,if_neg (fun e:g=f=>hk (h.symm.trans e))]
   ·have hb:(g == k)=false:=beq_eq_false_iff_ne.mpr h
    simp only [List.lookup,hb]
    exact ih
theorem zex (f:Str) (v:V):∀ fs:List (Str × V),f ∈ (putF f v fs).map (·.1)∧∀ g,g ∈ fs.map (·.1)→g ∈ (putF f v fs).map (·.1)
 | []=>⟨by simp [putF],fun g h=>by simp at h⟩
 | (k,x) :: r=>by
  obtain ⟨i1,i2⟩:=zex f v r
  rw [show putF f v ((k,x) :: r)=(if k=f then (k,v) :: r else (k,x) :: putF f v r) from rfl]
  by_cases hk:k=f
  ·rw [if_pos hk]
   subst hk
   exact ⟨by simp,fun g h=>by simpa using h⟩
  ·rw [if_neg hk]
   refine ⟨?_,fun g h=>?_⟩
   ·rw [List.map_cons]
    exact List.mem_cons_of_mem _ i1
   ·rw [List.map_cons] at h ⊢
    rcases List.mem_cons.mp h with e | e
    ·exact List.mem_cons.mpr (.inl e)
    ·exact List.mem_cons_of_mem _ (i2 g e)
theorem zes (f:Str) (v:V):∀ fs:List (Str × V),(putF f v fs).length ≤ fs.length + 1
 | []=>by simp [putF]
 | (k,x) :: r=>by
  have ih:=zes f v r
  rw [show putF f v ((k,x) :: r)=(if k=f then (k,v) :: r else (k,x) :: putF f v r) from rfl]
  by_cases hk:k=f
  ·rw [if_pos hk,List.length_cons,List.length_cons];omega
  ·rw [if_neg hk,List.length_cons,List.length_cons];omega
theorem RelO.some_of {v:V} {o:Option Value} (r:RelO (some v) o):∃ u,o=some u∧RelV v u:=by
 cases o with
 | none=>exact (show False from r).elim
 | some u=>exact ⟨u,rfl,r⟩
theorem RelO.none_of {o:Option Value} (r:RelO none o):o=none:=by
 cases o with
 | none=>rfl
 | some u=>exact (show False from r).elim
theorem zih {v:V} {u:Value} (r:RelV v u):PySem.W.handedIn u=true:=by
 cases v with
 | non=>cases (show u=Value.none from r);rfl
 | bl b=>cases (show u=Value.bool b from r);rfl
 | int i=>obtain ⟨t,e⟩:=(show ∃ t,u=Value.int i t from r);cases e;rfl
 | str x=>obtain ⟨t,e⟩:=(show ∃ t,u=Value.str x t from r);cases e;rfl
 | byt b=>obtain ⟨t,e⟩:=(show ∃ t,u=Value.bytes b t from r);cases e;rfl
 | flt b=>obtain ⟨t,e⟩:=(show ∃ t,u=Value.float b t from r);cases e;rfl
 | ref a=>cases (show u=Value.ref a from r);rfl
 | ty n=>cases (show u=Value.type n from r);rfl
section
variable {P:Program} {w:World} {H H':Hp} {h h':Heap} {a C dx:Addr} {fs fs':List (Str × V)}
theorem zfN (hok:HOk P w H h) (e:H a=some (.ins C dx fs)):∃ mA,ObjM h a dx C mA∧(∀ f,RelO (fs.lookup f) (mA f))∧PySem.Within mA (fs.map (·.1))∧fs.length ≤ 1000∧H dx=some (.own a):=by
 obtain ⟨d,z,ne,ob,mA,n,r,q⟩:=(show zco P w H h a (.ins C dx fs) from hok a _ e)
 exact ⟨mA,⟨ob,n,ne⟩,r,q,z,d⟩
end
structure Cls (K:PySem.W.Frag) (C:Addr):Prop where
 pg:PySem.W.plainGet K C Str.empty=true
 hd:PySem.W.hasDictIn K C=true
 po:PySem.W.plainOver K C=true
 sa:PySem.W.findIn K (.ref C) "__setattr__" = some (some (.builtin "object.__setattr__"))
theorem Cls.get {K:PySem.W.Frag} {C:Addr} (c:Cls K C) (f:Str):PySem.W.plainGet K C f=true:=c.pg
def zeC (K:PySem.W.Frag) (C:Addr) (f:Str):Prop:=PySem.W.findIn K (.ref C) f=some none
theorem zeC.zor {K:PySem.W.Frag} {C:Addr} {f:Str} (n:zeC K C f):PySem.W.takerIn K C f=some none:=by
 unfold PySem.W.takerIn
 rw [show PySem.W.findIn K (.ref C) f=some none from n]
 rfl
structure Con (K:PySem.W.Frag) (C:Addr) (f:Str) (v:V) (u:Value):Prop where
 at_:PySem.W.findIn K (.ref C) f=some (some u)
 rel:RelV v u
 get:PySem.W.specialIn K u "__get__" = some none
 cp:PySem.W.copiedNames.contains f=false
structure Meth (K:PySem.W.Frag) (C:Addr) (m:Str) (f:Addr):Prop where
 at_:PySem.W.findIn K (.ref C) m=some (some (.ref f))
 fn:PySem.W.isFn K (.ref f)=true
 kp:PySem.W.keepIn K (.ref f)=true
section
variable {X:Cx} {pins:List (Addr × Obj)} {σ:St} {H:Hp} {s:Shared} {a C dx:Addr} {fs:List (Str × V)} {f:Str} {v:V} {A:Around} {E:Value→Shared→Prop}
theorem zh0 {b:Bool} {Q:Value→Shared→Prop} (I:Inv X pins σ H s) (e:H a=some (.ins C dx fs)) (c:Cls X.K C) (n:zeC X.K C f) (l:fs.lookup f=some v)
  (h:∀ u s',Inv X pins σ H s'→RelV v u→Q u s'):wpAny (model X.prog X.w) A (getAttr (.ref a) f b) Q E s:=by
 obtain ⟨mA,O,r,_,_,_⟩:=zfN I.hok e
 obtain ⟨u,hu,ru⟩:=RelO.some_of (v:=v) (o:=mA f) (by rw [← l];exact r f)
 exact get_map I.kIn O (c.get f) c.hd n hu (zih ru) (h u _ (I.tok _) ru)
theorem zfg {m:Str} {g:Addr} {pl:Sem Bool} {Q:Value × List Value→Shared→Prop} (I:Inv X pins σ H s) (e:H a=some (.ins C dx fs)) (c:Cls X.K C) (k:Meth X.K C m g) (l:fs.lookup m=none)
  (h:Q (.ref g,[.ref a]) s):wpAny (model X.prog X.w) A (getMethod (.ref a) m pl) Q E s:=by
 obtain ⟨mA,O,r,_,_,_⟩:=zfN I.hok e
 have hn:mA m=none:=RelO.none_of (by rw [← l];exact r m)
 exact zkd I.kIn O (c.get m) k.at_ k.fn hn h
theorem zhY {y:V} {u:Value} {Q:Unit→Shared→Prop} (I:Inv X pins σ H s) (e:H a=some (.ins C dx fs)) (c:Cls X.K C) (n:zeC X.K C f) (hl:fs.length < 1000) (ry:RelV y u)
  (h:∀ s',Inv X pins σ (upd H a (.ins C dx (putF f y fs))) s'→Q () s'):wpAny (model X.prog X.w) A (setAttr (.ref a) f u) Q E s:=by
 obtain ⟨mA,O,r,wi,_,ho⟩:=zfN I.hok e
 have hz:(fs.map (·.1)).length ≤ sizeLine:=by rw [List.length_map,sizeLine_eq];omega
 refine zlp I.kIn O c.sa c.po n.zor c.hd wi hz fun h' O' sb=>h _ ?_
 have hd:∃ o,h'.get? dx=some o:=let ⟨o,_,_,e',_⟩:=O'.ns; ⟨o,e'⟩
 refine I.write (x:=a) (e:=dx) (by rw [e];exact True.intro) (.inr ho) (fun b q hb z=>(sb.2 b hb).trans z) hd ?_
 refine ⟨by rw [zao O.ne];exact ho,?_,O.ne,O'.obj,_,O'.ns,fun g=>?_,fun g hg=>?_⟩
 ·have:=zes f y fs;omega
 ·show RelO ((putF f y fs).lookup g) (if g=f then some u else mA g)
  rw [zeH]
  by_cases q:g=f
  ·rw [if_pos q,if_pos q];exact ry
  ·rw [if_neg q,if_neg q];exact r g
 ·by_cases q:g=f
  ·rw [q];exact (zex f y fs).1
  ·refine (zex f y fs).2 g (wi g fun z=>hg ?_)
   show (if g=f then some u else mA g)=none
   rw [if_neg q];exact z
theorem Inv.made (I:Inv X pins σ H s):Inv X pins σ (upd (upd H s.heap.objs.size (.own (s.heap.objs.size + 1))) (s.heap.objs.size + 1) (.ins C s.heap.objs.size []))
  { s with heap:=(s.heap.push PySem.W.emptyDict).push (PySem.W.instObj C s.heap.objs.size) }:=by
 have e1:(s.heap.push PySem.W.emptyDict).get? s.heap.objs.size=some PySem.W.emptyDict:=Heap.get?_push_size s.heap rfl
 have e2:((s.heap.push PySem.W.emptyDict).push (PySem.W.instObj C s.heap.objs.size)).get? (s.heap.objs.size + 1)=some (PySem.W.instObj C s.heap.objs.size):=by
  have:=Heap.get?_push_size (s.heap.push PySem.W.emptyDict) (o:=PySem.W.instObj C s.heap.objs.size) rfl
  rwa [Heap.size_push] at this
 have e3:(s.heap.push PySem.W.emptyDict).Ns s.heap.objs.size (fun _=>none):=⟨PySem.W.emptyDict,#[],_,e1,rfl,(fun e he=>absurd he (by simp)),fun _=>rfl⟩
 have I1:=I.laid (a:=s.heap.objs.size) (o := .own (s.heap.objs.size + 1)) (h':=s.heap.push PySem.W.emptyDict) (t':=s.toks) (fun b u q=>Heap.get?_push_of_some _ q) (Nat.le_refl _) ⟨_,e1⟩
 refine I1.laid (a:=s.heap.objs.size + 1) (o := .ins C s.heap.objs.size []) (t':=s.toks) (fun b u q=>Heap.get?_push_of_some _ q) (Nat.le_of_eq (Heap.size_push _ _)) ?_
 have ne:s.heap.objs.size ≠ s.heap.objs.size + 1:=Nat.ne_of_lt (Nat.lt_succ_self _)
 refine ⟨by rw [zao ne,zaw],Nat.zero_le _,ne,e2,fun _=>none,(Heap.Ns1.of_empty e3).at fun o q=>Heap.get?_push_of_some _ q,fun _=>True.intro,fun y hy=>absurd rfl hy⟩
theorem zlR {prog:Program} {w:World} {env:Env} {e:Expr} {f:Str} {pos:Pos} {s:Shared} {Q:Value→Shared→Prop} (hb:attributeBase e f env (eval e env)=eval e env)
  (h:wpAny (model prog w) A (eval e env) (fun o s₁=>wpAny (model prog w) A (getAttr o f true) Q E s₁) E s):wpAny (model prog w) A (eval (.Attribute e f pos) env) Q E s :=
 Attribute_any_ h (by rw [arm_eval_Attribute,hb])
end
def tFld (K:PySem.W.Frag) (ta:TE) (f:Str):TE:=fun σ H Q=>ta σ H fun x H1=>∃ a C dx fs v,x = .ref a∧H1 a=some (.ins C dx fs)∧Cls K C∧zeC K C f∧fs.lookup f=some v∧Q v H1
def sFld (K:PySem.W.Frag) (ta tv:TE) (f:Str):TS:=fun D σ H=>tv σ H fun y H1=>ta σ H1 fun x H2=>∃ a C dx fs,x = .ref a∧H2 a=some (.ins C dx fs)∧Cls K C∧zeC K C f∧fs.length < 1000 ∧
 D.nx σ (upd H2 a (.ins C dx (putF f y fs)))
section
variable {X:Cx} {o e value:Expr} {f:Str} {pos pos' tpos:Pos} {ta tv:TE}
theorem zkQ (he:PE X e ta) (hb:attributeBase e f X.env (eval e X.env)=eval e X.env):PE X (.Attribute e f pos) (tFld X.K ta f):=by
 intro pins s σ H Q I h
 refine zlR hb (thn (he pins s σ H _ I h) fun u s1 ⟨x,H1,I1,rx,a,C,dx,fs,v,ex,ea,c,n,l,q⟩=>?_)
 subst ex
 obtain rfl:u=Value.ref a:=rx
 exact zh0 I1 ea c n l fun u' s2 I2 ru=>⟨v,H1,I2,ru,q⟩
theorem zm4 (ha:PE X o ta) (hv:PE X value tv) (hs:swapsWith value (some (.Attribute o f pos')) pos.line X.env=pure false):PS X (.Assign [.Attribute o f pos'] value pos) (sFld X.K ta tv f):=by
 intro pins s σ H D I h
 refine plainObj_wpAny_Assign_Attribute (thn (hv pins s σ H _ I h) fun u s1 ⟨y,H1,I1,ry,q⟩=>thn (ha pins s1 σ H1 _ I1 q) fun ov s2 ⟨x,H2,I2,rx,a,C,dx,fs,ex,ea,c,n,l,q2⟩=>?_) hs
 subst ex
 obtain rfl:ov=Value.ref a:=rx
 exact zhY I2 ea c n l ry fun s3 I3=>⟨σ,_,I3,q2⟩
end
section
variable {X:Cx} {pins:List (Addr × Obj)} {σ:St} {H:Hp} {s:Shared} {A:Around} {E:Value→Shared→Prop} {Q:Value→Shared→Prop} {c:Value} {b:Bool}
inductive TyOf (K:PySem.W.Frag) (H:Hp):V→Value→Prop where
 | non:TyOf K H .non (.type "NoneType")
 | bl (x:Bool):TyOf K H (.bl x) (.type "bool")
 | int (i:Int):TyOf K H (.int i) (.type "int")
 | str (x:Str):TyOf K H (.str x) (.type "str")
 | flt (x:UInt64):TyOf K H (.flt x) (.type "float")
 | lst {a:Addr} {xs:List V} (e:H a=some (.lst xs)):TyOf K H (.ref a) (.type "list")
 | frz {a:Addr} {o:Obj} {xs:List V} (e:H a=some (.frz o (.lst xs))):TyOf K H (.ref a) (.type "list")
 | tup {a:Addr} {xs:List V} (e:H a=some (.tup xs)):TyOf K H (.ref a) (.type "tuple")
 | dK {a:Addr} {kvs:List (Key × V)} (e:H a=some (.dK kvs)):TyOf K H (.ref a) (.type "dict")
 | dT {a:Addr} {kvs:List (List Key × V)} (e:H a=some (.dT kvs)):TyOf K H (.ref a) (.type "dict")
 | ins {a C dx:Addr} {fs:List (Str × V)} (e:H a=some (.ins C dx fs)) (cl:Cls K C) (ha:PySem.W.findIn K (.ref C) "__class__" = some (some (.builtin "object.__class__")))
   (hn:PySem.W.specialIn K (.builtin "object.__class__") "__get__" = some (some (.builtin "getset_descriptor.__get__"))) (htk:PySem.W.takesIn K (.builtin "object.__class__")=some true)
   (hm:PySem.W.mroIn K C (.type "object")=some true):TyOf K H (.ref a) (.ref C)
theorem zii {x:V} {u t:Value} (I:Inv X pins σ H s) (rx:RelV x u) (ty:TyOf X.K H x t) (e:PySem.W.kitOne X.K t c=some b) (h:∀ tk,Q (.bool b) { s with toks:=tk }) :
  wpAny (model X.prog X.w) A (call (.builtin "isinstance") [u,c]) Q E s:=by
 cases ty with
 | non=>cases (show u=Value.none from rx);exact PySem.W.kia_one PySem.W.kitx_none I.kIn True.intro e (fun z=>nomatch z) h
 | bl y=>cases (show u=Value.bool y from rx);exact PySem.W.kia_one PySem.W.kitx_bool I.kIn True.intro e (fun z=>nomatch z) h
 | int i=>obtain ⟨t,q⟩:=(show ∃ t,u=Value.int i t from rx);cases q;exact PySem.W.kia_one PySem.W.kitx_int I.kIn True.intro e (fun z=>nomatch z) h
 | str y=>obtain ⟨t,q⟩:=(show ∃ t,u=Value.str y t from rx);cases q;exact PySem.W.kia_one PySem.W.kitx_str I.kIn True.intro e (fun z=>nomatch z) h
 | flt y=>obtain ⟨t,q⟩:=(show ∃ t,u=Value.float y t from rx);cases q;exact PySem.W.kia_one PySem.W.kitx_float I.kIn True.intro e (fun z=>nomatch z) h
 | @lst a xs ea =>
  cases (show u=Value.ref a from rx)
  obtain ⟨_,_,n,_,h1⟩:=(show zco X.prog X.w H s.heap a (.lst xs) from I.hok a _ ea)
  exact PySem.W.kia_one PySem.W.kitx_list I.kIn ⟨_,h1,rfl⟩ e (fun z=>nomatch z) h
 | @frz a ob xs ea =>
  cases (show u=Value.ref a from rx)
  obtain ⟨_,_,_,n,_,h1⟩:=(show zco X.prog X.w H s.heap a (.frz ob (.lst xs)) from I.hok a _ ea)
  exact PySem.W.kia_one PySem.W.kitx_list I.kIn ⟨_,h1,rfl⟩ e (fun z=>nomatch z) h
 | @tup a xs ea =>
  cases (show u=Value.ref a from rx)
  obtain ⟨_,_,_,p⟩:=(show zco X.prog X.w H s.heap a (.tup xs) from I.hok a _ ea)
  obtain ⟨o,h1,h2,_⟩:=p
  exact PySem.W.kia_one PySem.W.kitx_tuple I.kIn ⟨o,h1,h2⟩ e (fun z=>nomatch z) h
 | @dK a kvs ea =>
  cases (show u=Value.ref a from rx)
  obtain ⟨_,_,vs,_,p⟩:=(show zco X.prog X.w H s.heap a (.dK kvs) from I.hok a _ ea)
  obtain ⟨o,es,ep,h1,h2,_⟩:=p
  exact PySem.W.kia_one PySem.W.kitx_dict I.kIn ⟨o,h1,h2.1⟩ e (fun z=>nomatch z) h
 | @dT a kvs ea =>
  cases (show u=Value.ref a from rx)
  obtain ⟨_,_,xs,_,o,es,ep,h1,h2,_⟩:=(show zco X.prog X.w H s.heap a (.dT kvs) from I.hok a _ ea)
  exact PySem.W.kia_one PySem.W.kitx_dict I.kIn ⟨o,h1,h2.1⟩ e (fun z=>nomatch z) h
 | @ins a C dx fs ea cl ha hn htk hm =>
  cases (show u=Value.ref a from rx)
  obtain ⟨mA,O,_⟩:=zfN I.hok ea
  obtain ⟨od,J,_⟩:=O.look
  exact PySem.W.kia_one (PySem.W.kitx_own (cl.get _) cl.hd ha hn htk hm) I.kIn J e (fun z=>nomatch z) h
end
end L2
namespace L2
open PySem PySem.Spec PyProof.Rows
structure Room (k:Nat) (A:Around):Prop where
 hd:A.handled=none
 dp:A.depth + 3 * k + 5 < recursionLimit
 un:A.units + 16 * k + 200 < cLine
theorem Room.mono {j k:Nat} {A:Around} (r:Room k A) (h:j ≤ k):Room j A:=⟨r.hd,by have:=r.dp;omega,by have:=r.un;omega⟩
theorem Room.deeper {k:Nat} {A:Around} (r:Room (k + 1) A) (env:Env):Room k (A.deeper env) :=
 ⟨r.hd,by have:=r.dp;show A.depth + 1 + 3 * k + 5 < _;omega,by have:=r.un;show A.units + 3 + 16 * k + 200 < _;omega⟩
theorem zie {A:Around} {C:Addr} {us:List Value} {kw:List (Str × Value)}:(A.under (.builtin "type.__call__" ⟨.ref C :: us,kw⟩)).depth=A.depth + 1:=by
 first | rfl | simp [Around.under,Code.weight,Code.isCreation,Code.isGuard,Code.isCaller,Code.frames,Code.isFrame,guardIds]
theorem zia {A:Around} {C:Addr} {us:List Value} {kw:List (Str × Value)}:(A.under (.builtin "type.__call__" ⟨.ref C :: us,kw⟩)).units=A.units + 1:=by
 first | rfl | simp [Around.under,Code.cUnits,Code.frames,Code.isFrame]
theorem Room.make {k:Nat} {A:Around} (r:Room (k + 1) A) (C:Addr) (us:List Value) (kw:List (Str × Value)):Room k (A.under (.builtin "type.__call__" ⟨.ref C :: us,kw⟩)) :=
 ⟨r.hd,by have:=r.dp;rw [zie];omega,by have:=r.un;rw [zia];omega⟩
theorem Room.depth {k:Nat} {A:Around} (r:Room k A):A.depth < recursionLimit:=by have:=r.dp;omega
theorem Room.units {k:Nat} {A:Around} (r:Room k A):A.units + 64 < cLine:=by have:=r.un;omega
def tNil:TA:=fun _ H Q=>Q [] H
def zoh (ta:TE) (tr:TA):TA:=fun σ H Q=>ta σ H fun x H1=>tr σ H1 fun xs H2=>Q (x :: xs) H2
section
variable {X:Cx} {e:Expr} {es:List Expr} {te:TE} {t:TA} {pos:Pos}
theorem zhB:PA X [] tNil:=fun _ _ _ _ H Q I h=>Calls.spliced_nil ⟨[],H,I, .nil,h⟩
theorem zhf (ha:PE X e te) (hr:PA X es t) (hs:starEach (e :: es) X.env=(false,eval e X.env) :: starEach es X.env:=by rfl):PA X (e :: es) (zoh te t):=by
 intro pos pins s σ H Q I h
 rw [hs]
 show wpAny _ _ (spliced ((false,eval e X.env) :: backTo pos (starEach es X.env))) _ _ s
 refine Calls.spliced_cons (thn (ha pins s σ H _ I h) fun u s1 ⟨x,H1,I1,r1,q1⟩=>?_)
 exact thn (hr pos pins s1 σ H1 _ I1 q1) fun us s2 ⟨xs,H2,I2,r2,q2⟩=>⟨x :: xs,H2,I2, .cons r1 r2,q2⟩
def tTup (t:TA):TE:=fun σ H Q=>t σ H fun xs H1=>xs.length ≤ sizeLine∧∀ p,H1 p=none→Q (.ref p) (upd H1 p (.tup xs))
def tLst (t:TA):TE:=fun σ H Q=>t σ H fun xs H1=>xs.length ≤ sizeLine∧∀ p,H1 p=none→Q (.ref p) (upd H1 p (.lst xs))
theorem zn0 {x1} (h:PA X es t):PE X (.Tuple es x1 pos) (tTup t):=by
 intro pins s σ H Q I hq
 refine wpAny_Tuple_spliced (thn (h pos pins s σ H _ I hq) fun us s1 ⟨xs,H1,I1,r,z,q⟩=>⟨by rw [← r.length];exact z,?_⟩)
 have hf:H1 s1.heap.objs.size=none:=I1.hok.fresh (Nat.le_refl _)
 refine ⟨.ref s1.heap.objs.size,upd H1 s1.heap.objs.size (.tup xs),I1.laid (t':=s1.toks) (fun b u e=>Heap.get?_push_of_some _ e) (Nat.le_refl _) ?_,rfl,q _ hf⟩
 exact ⟨z,us,r,⟨_,Heap.get?_push_size _ rfl,rfl,_,rfl⟩⟩
theorem zkG (h:PA X es t):PE X (.List es pos) (tLst t):=by
 intro pins s σ H Q I hq
 refine wpAny_List_spliced (thn (h pos pins s σ H _ I hq) fun us s1 ⟨xs,H1,I1,r,z,q⟩=>⟨by rw [← r.length];exact z,?_⟩)
 have hf:H1 s1.heap.objs.size=none:=I1.hok.fresh (Nat.le_refl _)
 refine ⟨.ref s1.heap.objs.size,upd H1 s1.heap.objs.size (.lst xs),I1.laid (t':=s1.toks) (fun b u e=>Heap.get?_push_of_some _ e) (Nat.le_refl _) ?_,rfl,q _ hf⟩
 exact ⟨z,us,0,r,Heap.get?_push_size _ rfl⟩
end
abbrev Sp:=List V→Hp→VK→XK→Prop
abbrev CXT:=List Env→Hp→Shared→XK→Value→Shared→Prop
structure Env0 (P:Program) (w:World) (K:PySem.W.Frag) (mg:Str→Option Value) (base:Heap) (A:Around) (outer:List Env) (s:Shared) (H:Hp):Prop where
 frames:A.frames=some outer
 mod:Mod K mg base
 bs:∀ b o,base.get? b=some o→s.heap.get? b=some o∧H b=none
 bsz:base.objs.size ≤ s.heap.objs.size
 funs:s.heap.FunFrames base outer
 frf:∀ b ∈ frs outer,H b=none
 hok:HOk P w H s.heap
 bare:AllBare s.gens
def CE (outer:List Env) (P:Program) (w:World) (H:Hp) (s:Shared) (Q:VK) (u:Value) (s':Shared):Prop :=
 ∃ v H',s'.os=s.os∧AllBare s'.gens∧Un (frs outer) [] H H' s.heap s'.heap∧HOk P w H' s'.heap∧RelV v u∧Q v H'
def CR (CX:CXT) (outer:List Env) (P:Program) (w:World) (H:Hp) (s:Shared) (Q:VK) (E:XK) (r:Result) (s':Shared):Prop :=
 match r with
 | .ok (.ret u)=>CE outer P w H s Q u s'
 | .ok _=>False
 | .error e=>CX outer H s E e s'
structure FnOk (P:Program) (w:World) (K:PySem.W.Frag) (mg:Str→Option Value) (base:Heap) (CX:CXT) (k:Nat) (f:Addr) (fd:FuncData) (ps:List Str) (sp:Sp):Prop where
 len:∀ vs H Q E,sp vs H Q E→vs.length=ps.length
 run:∀ (A:Around) (outer:List Env) (s:Shared) (H:Hp) (args:Args) (us:List Value) (vs:List V) (Q:VK) (E:XK),Room k A→Env0 P w K mg base A outer s H→BindsTo s fd args (ps.zip us)→Vals vs us→sp vs H Q E →
  codeAny (model P w) A (.call (.ref f) args) (CR CX outer P w H s Q E) s
theorem FnOk.mono {P:Program} {w:World} {K:PySem.W.Frag} {mg:Str→Option Value} {base:Heap} {CX:CXT} {j k:Nat} {f:Addr} {fd:FuncData} {ps:List Str} {sp:Sp} (F:FnOk P w K mg base CX j f fd ps sp) (h:j ≤ k) :
  FnOk P w K mg base CX k f fd ps sp:=⟨F.len,fun A outer s H args us vs Q E hr=>F.run A outer s H args us vs Q E (hr.mono h)⟩
theorem FnOk.imp {P:Program} {w:World} {K:PySem.W.Frag} {mg:Str→Option Value} {base:Heap} {CX:CXT} {k:Nat} {f:Addr} {fd:FuncData} {ps:List Str} {sp sp':Sp} (F:FnOk P w K mg base CX k f fd ps sp)
  (h:∀ vs H Q E,sp' vs H Q E→sp vs H Q E):FnOk P w K mg base CX k f fd ps sp' :=
 ⟨fun vs H Q E q=>F.len vs H Q E (h _ _ _ _ q),fun A outer s H args us vs Q E hr he hb hv hs=>F.run A outer s H args us vs Q E hr he hb hv (h _ _ _ _ hs)⟩
theorem Env0.make {P:Program} {w:World} {K:PySem.W.Frag} {mg:Str→Option Value} {base:Heap} {A:Around} {outer:List Env} {s:Shared} {H:Hp} (e:Env0 P w K mg base A outer s H) (C:Addr) (us:List Value) (kw:List (Str × Value)) :
  Env0 P w K mg base (A.under (.builtin "type.__call__" ⟨.ref C :: us,kw⟩)) outer s H:=⟨by first | exact e.frames | (simpa [Around.under,Code.envs,Code.isFrame,pushEnvs] using e.frames),e.mod,e.bs,e.bsz,e.funs,e.frf,e.hok,e.bare⟩
section
variable {X:Cx} {pins:List (Addr × Obj)} {σ:St} {H:Hp} {s s':Shared}
theorem Inv.env0 (I:Inv X pins σ H s):Env0 X.prog X.w X.K X.mg X.base X.A X.stack s H :=
 ⟨I.ok.frames,I.ok.mod,I.bs,Nat.le_trans I.ok.bsz I.sz,I.stack,I.zgT,I.hok,I.bare⟩
theorem Inv.after {Q:VK} {u:Value} (I:Inv X pins σ H s) (h:CE X.stack X.prog X.w H s Q u s'):EP X pins σ Q u s':=by
 obtain ⟨v,H',os,bare,un,hok,r,q⟩:=h
 obtain ⟨hh,g,d,t,os'⟩:=s'
 obtain rfl:os'=s.os:=os
 exact ⟨v,H',I.call (h':=hh) (g':=g) (d':=d) (t':=t) (ch:=[]) un hok bare (fun b z=>absurd z (by simp)),r,q⟩
end
def znj (sp:Sp) (dvs:List V) (E:XK) (t:TA):TE:=fun σ H Q=>t σ H fun vs H1=>sp (vs ++ dvs) H1 Q E
def zoe (C:Addr) (sp:Sp) (dvs:List V) (E:XK) (t:TA):TE:=fun σ H Q=>t σ H fun vs H1=>∀ x dx,H1 x=none→H1 dx=none→dx ≠ x →
 sp (.ref x :: (vs ++ dvs)) (upd (upd H1 dx (.own x)) x (.ins C dx [])) (fun v H2=>v = .non∧Q (.ref x) H2) E
def Binds (K:PySem.W.Frag) (fd:FuncData) (ps:List Str) (ds:List Value):Prop :=
 ∀ (s:Shared) (us:List Value),K.In s.heap→(us ++ ds).length=ps.length→BindsTo s fd ⟨us,[]⟩ (ps.zip (us ++ ds))
theorem Binds.all {K:PySem.W.Frag} {fd:FuncData} {ps:List Str} (h:∀ us:List Value,us.length=ps.length→bindArgs fd ⟨us,[]⟩ = pure (ps.zip us)):Binds K fd ps []:=fun s us _ hl=>by
 rw [List.append_nil] at hl ⊢
 exact .of_eq (h us hl)
def Passes (CX:CXT) (X:Cx) (E:XK):Prop:=∀ (pins:List (Addr × Obj)) (σ:St) (H:Hp) (s:Shared) (e:Value) (s':Shared),Inv X pins σ H s→CX X.stack H s E e s'→X.xe e s'
section
variable {X:Cx} {CX:CXT} {k:Nat} {f C:Addr} {fd:FuncData} {ps:List Str} {sp:Sp} {dvs:List V} {ds:List Value} {E:XK} {x m:Str} {p pos apos:Pos} {e o:Expr} {es:List Expr} {ta:TE} {t:TA}
theorem znK {pins:List (Addr × Obj)} {σ:St} {H:Hp} {s:Shared} {Q:VK} {us:List Value} {vs:List V} (F:FnOk X.prog X.w X.K X.mg X.base CX k f fd ps sp) (hr:Room k X.A) (hb:Binds X.K fd ps ds) (hd:Vals dvs ds) (hx:Passes CX X E)
  (I:Inv X pins σ H s) (r:Vals vs us) (h:sp (vs ++ dvs) H Q E):wpAny (model X.prog X.w) X.A (call (.ref f) us) (EP X pins σ Q) X.xe s:=by
 have r2:Vals (vs ++ dvs) (us ++ ds):=r.append hd
 have hl:(us ++ ds).length=ps.length:=by rw [← r2.length];exact F.len _ _ _ _ h
 refine wpAny_call (codeAny_mono (F.run X.A X.stack s H ⟨us,[]⟩ (us ++ ds) (vs ++ dvs) Q E hr I.env0 (hb s us I.kIn hl) r2 h) fun r s' hq=>?_)
 cases r with
 | error e=>exact hx pins σ H s e s' I hq
 | ok fl =>
  cases fl with
  | ret u=>exact I.after hq
  | next=>exact False.elim hq
  | brk=>exact False.elim hq
  | cont=>exact False.elim hq
theorem zk3 (F:FnOk X.prog X.w X.K X.mg X.base CX k f fd ps sp) (hr:Room k X.A) (hg:Gl X x) (hm:X.mg x=some (.ref f)) (hk:PySem.W.keepIn X.K (.ref f)=true) (hb:Binds X.K fd ps ds) (hd:Vals dvs ds) (hx:Passes CX X E)
  (ha:PA X (e :: es) t) (hdb:(x == ("__debug__" : Str))=false:=by decide) (he:starEach (e :: es) X.env=(false,eval e X.env) :: starEach es X.env:=by rfl) (hpl:(backTo pos (starEach es X.env)).any (·.1)=false:=by rfl) :
  PE X (.Call (.Name x p) (e :: es) [] pos) (znj sp dvs E t):=by
 intro pins s σ H Q I h
 refine wpAny_Call_Name_kw (zdG I hg hm ?_ hdb)
 refine PySem.W.callWith_K (h₀:=X.base) I.ok.mod.kin hk (thn (ha pos pins s σ H _ I h) fun us s1 ⟨vs,H1,I1,r,q⟩=>⟨I1.kIn,?_⟩) he hpl
 exact znK F hr hb hd hx I1 r q
structure Mk (K:PySem.W.Frag) (C f:Addr):Prop where
 makes:PySem.W.makesIn K C=true
 init:PySem.W.findIn K (.ref C) "__init__" = some (some (.ref f))
 fn:PySem.W.isFn K (.ref f)=true
 kp:PySem.W.keepIn K (.ref C)=true
theorem zj2 {pins:List (Addr × Obj)} {σ:St} {H:Hp} {s:Shared} {Q:VK} {us:List Value} {vs:List V} (M:Mk X.K C f) (F:FnOk X.prog X.w X.K X.mg X.base CX k f fd ps sp) (hr:Room (k + 1) X.A) (hb:Binds X.K fd ps ds) (hd:Vals dvs ds)
  (hx:Passes CX X E) (I:Inv X pins σ H s) (r:Vals vs us)
  (h:∀ x dx,H x=none→H dx=none→dx ≠ x→sp (.ref x :: (vs ++ dvs)) (upd (upd H dx (.own x)) x (.ins C dx [])) (fun v H2=>v = .non∧Q (.ref x) H2) E) :
  wpAny (model X.prog X.w) X.A (call (.ref C) us) (EP X pins σ Q) X.xe s:=by
 have hq:=h (s.heap.objs.size + 1) s.heap.objs.size (I.hok.fresh (Nat.le_succ _)) (I.hok.fresh (Nat.le_refl _)) (Nat.ne_of_lt (Nat.lt_succ_self _))
 have I2:=Inv.made (C:=C) I
 have r2:Vals (V.ref (s.heap.objs.size + 1) :: (vs ++ dvs)) (Value.ref (s.heap.objs.size + 1) :: (us ++ ds)) := .cons rfl (r.append hd)
 have hl:(Value.ref (s.heap.objs.size + 1) :: us ++ ds).length=ps.length:=by
  have e:=r2.length
  rw [F.len _ _ _ _ hq] at e
  exact e.symm
 refine wpAny_call (zjU (f:=f) I.kIn M.makes M.init (beq_iff_eq.mp M.fn) (codeAny_mono (F.run _ X.stack _ _ ⟨Value.ref (s.heap.objs.size + 1) :: us,[]⟩ (Value.ref (s.heap.objs.size + 1) :: (us ++ ds)) _ _ E (hr.make C us [])
  (I2.env0.make C us []) (hb _ (Value.ref (s.heap.objs.size + 1) :: us) I2.kIn hl) r2 hq) fun r s' hq'=>?_))
 cases r with
 | error e=>exact hx pins σ _ _ e s' I2 hq'
 | ok fl =>
  cases fl with
  | ret u =>
   obtain ⟨v,H',I3,rv,ev,q3⟩:=I2.after hq'
   subst ev
   exact ⟨rv,⟨V.ref (s.heap.objs.size + 1),H',I3,rfl,q3⟩⟩
  | next=>exact False.elim hq'
  | brk=>exact False.elim hq'
  | cont=>exact False.elim hq'
theorem zlQ (M:Mk X.K C f) (F:FnOk X.prog X.w X.K X.mg X.base CX k f fd ps sp) (hr:Room (k + 1) X.A) (hg:Gl X x) (hm:X.mg x=some (.ref C)) (hb:Binds X.K fd ps ds) (hd:Vals dvs ds) (hx:Passes CX X E)
  (ha:PA X (e :: es) t) (hdb:(x == ("__debug__" : Str))=false:=by decide) (he:starEach (e :: es) X.env=(false,eval e X.env) :: starEach es X.env:=by rfl) (hpl:(backTo pos (starEach es X.env)).any (·.1)=false:=by rfl) :
  PE X (.Call (.Name x p) (e :: es) [] pos) (zoe C sp dvs E t):=by
 intro pins s σ H Q I h
 refine wpAny_Call_Name_kw (zdG I hg hm ?_ hdb)
 refine PySem.W.callWith_K (h₀:=X.base) I.ok.mod.kin M.kp (thn (ha pos pins s σ H _ I h) fun us s1 ⟨vs,H1,I1,r,q⟩=>⟨I1.kIn,?_⟩) he hpl
 exact zj2 M F hr hb hd hx I1 r q
end
section
variable {X:Cx} {CX:CXT} {k:Nat} {f C:Addr} {fd:FuncData} {ps ks:List Str} {sp:Sp} {E:XK} {x m:Str} {p pos apos kpos:Pos} {e o:Expr} {es:List Expr} {kws:List Keyword} {te ta:TE} {t tk:TA} {nm:Option Str}
structure zoS (K:PySem.W.Frag) (fd:FuncData) (ps ks:List Str) (g:List Value→List Value→List Value) (gV:List V→List V→List V):Prop where
 to:∀ (s:Shared) (us ws:List Value),K.In s.heap→(g us ws).length=ps.length→BindsTo s fd ⟨us,ks.zip ws⟩ (ps.zip (g us ws))
 rel:∀ {vs:List V} {us:List Value} {zs:List V} {ws:List Value},Vals vs us→Vals zs ws→Vals (gV vs zs) (g us ws)
variable {g:List Value→List Value→List Value} {gV:List V→List V→List V}
end
structure zat (N P:List Str) (sc:Scope):Prop where
 kind:sc.kind = .function
 co:sc.isCoroutine=false
 gen:sc.isGenerator=false
 nd:N.Nodup
 pre:N.take P.length=P
 par:∀ x ∈ P,sc.names.lookup x=some .local∨sc.names.lookup x=some .cell
 nofree:∀ y ∈ sc.names,y.2 ≠ .free
theorem zgw {kindOf:Str→Option NameKind} {x:Str}:∀ {binds:List (Str × Value)} {m:Str→Option Value},(∀ v,(x,v) ∉ binds)→bindL kindOf binds m x=m x
 | [],_,_=>rfl
 | (n,v) :: r,m,h=>by
  unfold bindL
  rw [zgw fun w hw=>h w (List.mem_cons_of_mem _ hw)]
  split
  ·have:x ≠ n:=by rintro rfl;exact h v List.mem_cons_self
   simp [this]
  ·rfl
theorem zgk {kindOf:Str→Option NameKind} {x:Str}:∀ {binds:List (Str × Value)} {m:Str→Option Value},(∀ v,(x,v) ∉ binds)→bindC kindOf binds m x=m x
 | [],_,_=>rfl
 | (n,v) :: r,m,h=>by
  unfold bindC
  rw [zgk fun w hw=>h w (List.mem_cons_of_mem _ hw)]
  split
  ·rfl
  ·have:x ≠ n:=by rintro rfl;exact h v List.mem_cons_self
   simp [this]
theorem zgA {kindOf:Str→Option NameKind} {x:Str} {v:Value}:∀ {P:List Str} {vs:List Value} {i:Nat} {m:Str→Option Value},P.Nodup→P[i]? = some x→vs[i]? = some v→kindOf x=some .local →
  bindL kindOf (P.zip vs) m x=some v
 | [],_,_,_,_,h,_,_=>by simp at h
 | _ :: _,[],_,_,_,_,h,_=>by simp at h
 | p :: P,w :: vs,0,m,nd,h1,h2,hk=>by
  simp at h1 h2;subst h1;subst h2
  show bindL kindOf ((p,w) :: P.zip vs) m p=_
  unfold bindL
  rw [zgw fun v hv=>(List.nodup_cons.mp nd).1 (List.of_mem_zip hv).1,if_pos hk]
  simp
 | p :: P,w :: vs,i + 1,m,nd,h1,h2,hk=>by
  show bindL kindOf ((p,w) :: P.zip vs) m x=_
  unfold bindL
  exact zgA (i:=i) (List.nodup_cons.mp nd).2 (by simpa using h1) (by simpa using h2) hk
theorem zgd {kindOf:Str→Option NameKind} {x:Str} {v:Value}:∀ {P:List Str} {vs:List Value} {i:Nat} {m:Str→Option Value},P.Nodup→P[i]? = some x→vs[i]? = some v→kindOf x ≠ some .local →
  bindC kindOf (P.zip vs) m x=some v
 | [],_,_,_,_,h,_,_=>by simp at h
 | _ :: _,[],_,_,_,_,h,_=>by simp at h
 | p :: P,w :: vs,0,m,nd,h1,h2,hk=>by
  simp at h1 h2;subst h1;subst h2
  show bindC kindOf ((p,w) :: P.zip vs) m p=_
  unfold bindC
  rw [zgk fun v hv=>(List.nodup_cons.mp nd).1 (List.of_mem_zip hv).1,if_neg hk]
  simp
 | p :: P,w :: vs,i + 1,m,nd,h1,h2,hk=>by
  show bindC kindOf ((p,w) :: P.zip vs) m x=_
  unfold bindC
  exact zgd (i:=i) (List.nodup_cons.mp nd).2 (by simpa using h1) (by simpa using h2) hk
def start (N:List Str) (vs:List V):St:=vs.map some ++ List.replicate (N.length - vs.length) none
def cxOf (CX:CXT) (P:Program) (w:World) (K:PySem.W.Frag) (mg:Str→Option Value) (base:Heap) (N:List Str) (qual:Str) (scope:Scope) (f:Addr) (cd:Value) (A:Around) (outer:List Env) (s:Shared) (H:Hp) (E:XK):Cx where
 prog:=P
 w:=w
 K:=K
 mg:=mg
 base:=base
 A:=A.deeper (envOfC qual scope s.heap.objs.size f cd)
 N:=N
 s₀:=s
 H₀:=H
 env:=envOfC qual scope s.heap.objs.size f cd
 outer:=outer
 stack:=envOfC qual scope s.heap.objs.size f cd :: outer
 ex:=[]
 calm:=true
 fn:=fun _=>true
 pn:=[]
 xe:=fun e s'=>wpAny (model P w) (A.deeper (envOfC qual scope s.heap.objs.size f cd)) (leaving (envOfC qual scope s.heap.objs.size f cd) e) (fun _ s''=>CX outer H s E e s'') (fun e' s''=>CX outer H s E e' s'') s'
theorem zhF {sc:Scope} {n:Nat} {x:Str} (h:sc.names.lookup x=some .cell):∃ c,(cellsFrom n sc.names []).lookup x=some c:=by
 have q:=PySem.W.cellsFrom_some sc.names n [] (.inl h)
 exact Option.isSome_iff_exists.mp q
theorem zew {CX:CXT} {P:Program} {w:World} {K:PySem.W.Frag} {mg:Str→Option Value} {base:Heap} {N ps:List Str} {qual:Str} {scope:Scope} {f:Addr} {cd:Value} {A:Around} {outer:List Env} {s s1:Shared} {H:Hp} {E:XK} {us:List Value} {vs:List V}
  (S:zat N ps scope) (hd:A.handled=none) (e0:Env0 P w K mg base A outer s H) (hl:vs.length=ps.length) (r:Vals vs us)
  (x:InCallC s s.heap.objs.size (bindL (envOfC qual scope s.heap.objs.size f cd).kindOf (ps.zip us) fun _=>none) (cellsFrom (s.heap.objs.size + 1) scope.names []) (bindC (envOfC qual scope s.heap.objs.size f cd).kindOf (ps.zip us) fun _=>none) s1) :
  Inv (cxOf CX P w K mg base N qual scope f cd A outer s H E) [] (start N vs) H s1:=by
 have hpl:ps.length ≤ N.length:=by have:=congrArg List.length S.pre;rw [List.length_take] at this;omega
 obtain ⟨h1,tk,rfl,hk⟩:=x.done
 have noA:∀ b:Addr,b ∉ (cxOf CX P w K mg base N qual scope f cd A outer s H E).ex:=fun b z=>absurd (show b ∈ ([] : List Addr) from z) (by simp)
 refine ⟨⟨e0.mod,S.kind,rfl,rfl,Nat.le_refl _,fun y z c h1 h2=>?_,fun y hy=>?_,fun y c _ h=>?_,fun _=>hd,Around.frames_deeper e0.frames, .inr ⟨rfl,rfl⟩,fun b z=>absurd z (noA b),e0.bs,e0.bsz,fun b _ _=>noA b,fun b z=>absurd z (noA b),e0.funs,e0.frf⟩,
  rfl,e0.bare,Un.kept hk,⟨_,x.toInCall.ns,fun i y v h1 h2 h3=>?_⟩,fun y c h=>⟨_,x.cell y c h⟩,e0.hok.fresh (Nat.le_refl _),fun y c h=>?_,fun p hp=>absurd (show p ∈ ([] : List (Addr × Obj)) from hp) (by simp),e0.hok.kept hk,?_⟩
 ·exact name_of_addr x.apart (PySem.mem_of_lookup h1) (PySem.mem_of_lookup h2)
 ·have hy:scope.names.lookup y=some .cell∨scope.names.lookup y=some .free:=hy
  rcases hy with hy | hy
  ·exact zhF hy
  ·exact absurd rfl (S.nofree _ (PySem.mem_of_lookup hy))
 ·exact Nat.le_of_lt (x.above y c (PySem.mem_of_lookup h))
 ·have hi:i < vs.length:=by
   unfold start at h2
   by_cases hi:i < vs.length
   ·exact hi
   ·rw [List.getElem?_append_right (by simpa using hi)] at h2
    rw [List.getElem?_replicate] at h2
    split at h2 <;> cases h2
  have ha:vs[i]? = some v:=by
   unfold start at h2
   rw [List.getElem?_append_left (by simpa using hi),List.getElem?_map] at h2
   cases e:vs[i]? with
   | none=>rw [e] at h2;cases h2
   | some a=>rw [e] at h2;cases h2;rfl
  obtain ⟨u,hu,rv⟩:=r.get ha
  have hp:ps[i]? = some y:=by
   rw [← S.pre,List.getElem?_take_of_lt (by omega)];exact h1
  have ndP:ps.Nodup:=by rw [← S.pre];exact S.nd.sublist (List.take_sublist _ _)
  refine ⟨u,rv,?_⟩
  rcases S.par y (List.mem_of_getElem? hp) with k | k
  ·exact .inl ⟨k,zgA ndP hp hu k⟩
  ·obtain ⟨c,e⟩:=zhF (n:=s.heap.objs.size + 1) k
   refine .inr ⟨.inl k,c,e,?_⟩
   have q:=x.cell y c e
   rw [zgd ndP hp hu (by show scope.names.lookup y ≠ _;rw [k];decide)] at q
   exact q
 ·exact e0.hok.fresh (Nat.le_of_lt (x.above y c (PySem.mem_of_lookup h)))
 ·unfold start
  show _=N.length
  rw [List.length_append,List.length_map,List.length_replicate]
  omega
theorem zjX {CX:CXT} {P:Program} {w:World} {K:PySem.W.Frag} {mg:Str→Option Value} {base:Heap} {k:Nat} {f:Addr} {name qual:Str} {params:Arguments} {body:List Stmt} {scope:Scope} {dV kV doc pm cdv ct oc:Value} {an od:Option Addr}
  {osl:Array (Option Value)} {N ps:List Str} {sp:Sp} (lk:K.lookup f=some ⟨oc,od, .func (PySem.W.fnOf name qual params body scope dV kV doc pm an cdv ct),osl⟩) (hcd:PySem.W.codeIn K cdv qual=true) (S:zat N ps scope)
  (len:∀ vs H Q E,sp vs H Q E→vs.length=ps.length)
  (hbody:∀ (A:Around) (outer:List Env) (s:Shared) (H:Hp) (vs:List V) (Q:VK) (E:XK),Room k (A.deeper (envOfC qual scope s.heap.objs.size f cdv))→sp vs H Q E →
   ∃ t,PSs (cxOf CX P w K mg base N qual scope f cdv A outer s H E) body t∧t { nx:=fun _ H'=>Q .non H',rt:=Q } (start N vs) H) :
  FnOk P w K mg base CX (k + 1) f (PySem.W.fnOf name qual params body scope dV kV doc pm an cdv ct) ps sp:=by
 refine ⟨len,fun A outer s H args us vs Q E hr e0 hb r hsp=>?_⟩
 have hl:=len _ _ _ _ hsp
 have KX:K.In s.heap:=e0.mod.kin.keeps fun b o e=>(e0.bs b o e).1
 have lim:s.heap.NoLimit:=e0.mod.nolimit.keeps fun b o e=>(e0.bs b o e).1
 have hkind:∀ y ∈ ps.zip us,scope.names.lookup y.1=some .local∨(scope.names.lookup y.1=some .cell∧((cellsFrom (s.heap.objs.size + 1) scope.names []).lookup y.1).isSome=true):=fun ⟨n,v⟩ hy=>by
  rcases S.par n (List.of_mem_zip hy).1 with q | q
  ·exact .inl q
  ·exact .inr ⟨q,PySem.W.cellsFrom_some _ _ _ (.inl q)⟩
 refine codeAny_call_function hr.depth (KX _ _ lk) rfl S.co S.gen rfl (PySem.W.codeRec_of KX hcd) (hb _ _ _ _ ?_)
 refine wpAny_newFunctionEnv_cells S.kind hkind fun env he s1 x=>?_
 subst he
 refine ⟨lim.keeps x.toInCall.keep,codeAny_func ?_⟩
 obtain ⟨t,ht,hq⟩:=hbody A outer s H vs Q E (hr.deeper _) hsp
 have I:Inv (cxOf CX P w K mg base N qual scope f cdv A outer s H E) [] (start N vs) H s1:=zew S hr.hd e0 hl r x
 refine wpAny_mono (ht [] s1 (start N vs) H _ I hq) (fun fl s' hs=>?_) fun e s' hs=>hs
 have fin:∀ {σ':St} {H':Hp} {v:V} {u:Value},Inv (cxOf CX P w K mg base N qual scope f cdv A outer s H E) [] σ' H' s'→RelV v u→Q v H'→CE outer P w H s Q u s' :=
  fun {σ' H' v u} J rv q=>⟨v,H',J.os,J.bare,J.base,J.hok,rv,q⟩
 cases fl with
 | ret u =>
  obtain ⟨v,σ',H',J,rv,q⟩:=hs
  exact fin J rv q
 | next =>
  obtain ⟨σ',H',J,q⟩:=hs
  exact fin (v:=V.non) (u:=Value.none) J rfl q
 | brk =>
  obtain ⟨_,_,_,q⟩:=hs
  exact False.elim q
 | cont =>
  obtain ⟨_,_,_,q⟩:=hs
  exact False.elim q
end L2
namespace L2
open PySem PySem.Spec PyProof.Rows
section
variable {X:Cx} {x:Str} {p pos:Pos} {e:Expr} {es:List Expr} {t:TA} {id T:String} {r:List V→Hp→VK→Prop}
def tCB (r:List V→Hp→VK→Prop) (t:TA):TE:=fun σ H Q=>t σ H fun vs H1=>r vs H1 Q
theorem zj7 (hc:zeh X (.builtin id) r) (hg:Gl X x) (hm:X.mg x=none) (hv:bootBuiltins x=some (.builtin id)) (ha:PA X (e :: es) t) (hn:x ≠ "__name__":=by decide) (hdb:(x == ("__debug__" : Str))=false:=by decide)
  (he:starEach (e :: es) X.env=(false,eval e X.env) :: starEach es X.env:=by rfl) (hpl:(backTo pos (starEach es X.env)).any (·.1)=false:=by rfl):PE X (.Call (.Name x p) (e :: es) [] pos) (tCB r t):=by
 intro pins s σ H Q I h
 refine wpAny_Call_Name_kw (zhj I hg hm hv ?_ hn hdb)
 exact PyProof.Rows.callWith_builtin1 (thn (ha pos pins s σ H _ I h) fun us s1 ⟨vs,H1,I1,r1,q1⟩=>hc pins s1 σ H1 vs us Q I1 r1 q1) he hpl
end
end L2
namespace HT
open PySem PyProof.Rows
section
open PySem.SeqAt
open PySem.AutoSeq1 (wpAny_loadPart')
open PySem.MeetsSeq PySem.MeetsSeq2 PySem.MeetsSeq3
end
section
variable {prog:Program} {w:World} {A:Around} {E:Value→Shared→Prop} {s:Shared}
theorem zl5 {t b:Addr} {vs ws:List Value} {Q:Value→Shared→Prop} (ht:IsTup s.heap t vs.toArray) (hb:IsTup s.heap b ws.toArray) (hv:vs ≠ [])
  (h1:ws=[]→Q (.ref t) s) (h2:ws ≠ []→Q (.ref s.heap.objs.size) { s with heap:=s.heap.push { cls := .type "tuple",data := .seq (vs ++ ws).toArray } })
  (hsz:vs.length + ws.length ≤ sizeLine):wpAny (model prog w) A (binaryOp .Add (.ref t) (.ref b)) Q E s:=by
 obtain ⟨⟨cls,dd,data,sl⟩,ho,hc,n,hd⟩:=id ht
 obtain ⟨⟨cls2,dd2,data2,sl2⟩,ho2,hc2,n2,hd2⟩:=id hb
 simp only at hc hd hc2 hd2
 subst hc hd hc2 hd2
 have e:vs.toArray ++ ws.toArray=(vs ++ ws).toArray:=by simp
 by_cases hw:ws=[]
 ·exact concat_meets ⟨_,ho,rfl⟩ ⟨_,ho2,rfl⟩ noFill_tuple_add seq_tuple_add PySem.F.slot_tuple_add PySem.F.entry_tuple_add (PySem.F.args_tuple_add_2 _ _)
   (tuple_addW1 t b vs.toArray ws.toArray n n2 dd dd2 sl sl2 (by simpa using hv) (by simp [hw])) ⟨ho,ho2,h1 hw⟩
 ·refine concat_meets ⟨_,ho,rfl⟩ ⟨_,ho2,rfl⟩ noFill_tuple_add seq_tuple_add PySem.F.slot_tuple_add PySem.F.entry_tuple_add (PySem.F.args_tuple_add_2 _ _)
   (tuple_addW2 t b vs.toArray ws.toArray n n2 dd dd2 sl sl2 (by simpa using hv) (by simpa using hw) (by rw [List.size_toArray,List.size_toArray];exact hsz)) ⟨ho,ho2,?_⟩
  rw [e]
  exact h2 hw
def sIx (n d:Nat):Option Int→Nat
 | none=>d
 | some v=>if v < 0 then (v + (n:Int)).toNat else min v.toNat n
theorem zkw (n d:Nat):sIx n d none=d:=rfl
theorem zlJ (n d k:Nat):sIx n d (some (k:Int))=min k n:=by
 show (if (k:Int) < 0 then ((k:Int) + (n:Int)).toNat else min (k:Int).toNat n)=min k n
 rw [if_neg (by omega),Int.toNat_natCast]
theorem znx (n d:Nat) (hd:d ≤ n) (o:Option Int):sIx n d o ≤ n:=by
 cases o with
 | none=>exact hd
 | some v =>
  show (if v < 0 then (v + (n:Int)).toNat else min v.toNat n) ≤ n
  by_cases hv:v < 0
  ·rw [if_pos hv];omega
  ·rw [if_neg hv];exact Nat.min_le_right _ _
theorem ziy (v:Int) (n d:Nat):(if v < 0 then max (v + (n:Int)) 0 else min v (n:Int))=((sIx n d (some v):Nat):Int):=by
 show (if v < 0 then max (v + (n:Int)) 0 else min v (n:Int))=(((if v < 0 then (v + (n:Int)).toNat else min v.toNat n):Nat):Int)
 by_cases hv:v < 0
 ·simp only [if_pos hv];omega
 ·simp only [if_neg hv];omega
theorem zh6 (lo hi:Option Int) (n:Nat):Builtin.Slice.sliceAdjust lo hi 1 (n:Int)=(((sIx n 0 lo:Nat):Int),((sIx n n hi:Nat):Int)):=by
 have h1:¬ ((1:Int) < 0):=by omega
 unfold Builtin.Slice.sliceAdjust
 simp only [h1,if_false]
 refine Prod.ext ?_ ?_
 ·cases lo with
  | none=>rfl
  | some v=>exact ziy v n 0
 ·cases hi with
  | none=>rfl
  | some v=>exact ziy v n n
theorem zid (i j:Nat):Builtin.Slice.slicePlaces (i:Int) (j:Int) 1=j - i:=by
 unfold Builtin.Slice.slicePlaces
 have h1:(1:Int) > 0:=by omega
 simp only [h1,if_true,Int.ediv_one]
 split <;> omega
theorem zfm {v:Value} {o:Option Int} {Q:Option Int→Shared→Prop} (p:IsPart v o) (h:Q o s):wpAny (model prog w) A (Builtin.Slice.slicePartIndex v) Q E s:=by
 cases p with
 | none=>exact slicePart_none h
 | int i t=>exact slicePart_int h
theorem zef {sl:Addr} {vl vu:Value} {lo hi:Option Int} {n:Nat} {Q:Int × Int × Nat→Shared→Prop} (hs:s.heap.IsSliceOf sl vl vu .none) (pl:IsPart vl lo) (pu:IsPart vu hi)
  (h:Q (((sIx n 0 lo:Nat):Int),1,sIx n n hi - sIx n 0 lo) s):wpAny (model prog w) A (Builtin.Slice.sliceApplied (.ref sl) (pure (n:Int))) Q E s:=by
 obtain ⟨os,hos,hcs,hds⟩:=id hs
 unfold Builtin.Slice.sliceApplied Builtin.Slice.sliceFields
 refine wpAny_bind (wpAny_bind (wpAny_field hos hds (x:=vl) rfl (wpAny_bind (wpAny_field hos hds (x:=vu) rfl (wpAny_bind (wpAny_field hos hds (x := .none) rfl (wpAny_pure ?_)))))))
 refine wpAny_bind (slicePart_none ?_)
 show wpAny _ _ (if ((1:Int) == 0)=true then _ else _) _ _ s
 rw [if_neg (by decide)]
 refine wpAny_bind (zfm pl (wpAny_bind (zfm pu (wpAny_bind (wpAny_pure ?_)))))
 show wpAny _ _ (match Builtin.Slice.sliceAdjust lo hi 1 (n:Int) with | (lo,hi)=>pure (lo,(1:Int),Builtin.Slice.slicePlaces lo hi 1)) _ _ s
 rw [zh6 lo hi n]
 show wpAny _ _ (pure (((sIx n 0 lo:Nat):Int),(1:Int),Builtin.Slice.slicePlaces ((sIx n 0 lo:Nat):Int) ((sIx n n hi:Nat):Int) 1)) _ _ s
 rw [zid]
 exact wpAny_pure h
theorem zkj (xs:Array Value) (i k:Nat):((List.range k).filterMap fun (m:Nat)=>xs[((i:Int) + (m:Int) * 1).toNat]?).toArray=((xs.toList.drop i).take k).toArray:=by
 have e:(fun (m:Nat)=>xs[((i:Int) + (m:Int) * 1).toNat]?)=fun m=>xs[i + m]?:=by
  funext m
  have:((i:Int) + (m:Int) * 1).toNat=i + m:=by omega
  rw [this]
 rw [e]
 have:=pick_run xs i k
 rw [List.filterMap_map] at this
 have e2:((fun x=>xs[x]?) ∘ fun x=>i + x)=fun m=>xs[i + m]?:=rfl
 rw [e2] at this
 rw [this]
theorem zdD {t sl:Addr} {items:Array Value} {vl vu:Value} {lo hi:Option Int} {Q:Value→Shared→Prop} (ht:IsTup s.heap t items) (hs:s.heap.IsSliceOf sl vl vu .none) (pl:IsPart vl lo) (pu:IsPart vu hi)
  (hw:¬ (sIx items.size 0 lo=0∧sIx items.size items.size hi=items.size))
  (h:Q (.ref s.heap.objs.size) { s with heap:=s.heap.push { cls := .type "tuple",data := .seq ((items.toList.drop (sIx items.size 0 lo)).take (sIx items.size items.size hi - sIx items.size 0 lo)).toArray } })
  (hsz:items.size ≤ sizeLine):wpAny (model prog w) A (getItem (.ref t) (.ref sl)) Q E s:=by
 have htake:sizeOk (.seq ((items.toList.drop (sIx items.size 0 lo)).take (sIx items.size items.size hi - sIx items.size 0 lo)).toArray):=by
  show ((items.toList.drop (sIx items.size 0 lo)).take (sIx items.size items.size hi - sIx items.size 0 lo)).toArray.size ≤ sizeLine
  rw [List.size_toArray,List.length_take,List.length_drop,Array.length_toList]
  omega
 have hj:sIx items.size items.size hi ≤ items.size:=znx _ _ (Nat.le_refl _) hi
 obtain ⟨os,hos,hcs,hds⟩:=id hs
 have hTs:s.TypeIs (.ref sl) "slice":=⟨os,hos,hcs⟩
 unfold getItem
 try with_reducible refine wpAny_holding ?_
 first | refine wpAny_bind (wpAny_pure ?_) | skip
 refine wpAny_bind (wpAny_sequenceKey ht.typeIs (by decide) ?_)
 refine wpAny_bind (wpAny_callSpecial?_slot (name:=Str.ofString "__getitem__") ht.typeIs PyProof.Rows.slot_tuple_getitem
  (wpAny_call_entry PyProof.Rows.slot_tuple_getitem ht.typeIs entry_tuple_getitem ?_ (args_tuple_getitem _ _)))
 show wpAny _ _ (Builtin.Tuple.tupleItemsOf (.ref t) >>= _) _ _ s
 refine wpAny_bind (tupleItemsOf_ ht ?_)
 refine wpAny_bind (wpAny_typeOf hTs ?_)
 rw [if_pos (by decide)]
 refine wpAny_bind (zef hs pl pu ?_)
 have hno:¬ ((((sIx items.size 0 lo:Nat):Int) == 0 && (1:Int) == 1 && (sIx items.size items.size hi - sIx items.size 0 lo) == items.size)=true):=by
  intro q
  rw [Bool.and_eq_true,Bool.and_eq_true] at q
  have q1:((sIx items.size 0 lo:Nat):Int)=0:=eq_of_beq q.1.1
  have q2:sIx items.size items.size hi - sIx items.size 0 lo=items.size:=eq_of_beq q.2
  exact hw ⟨by omega,by omega⟩
 show wpAny _ _ (if (((sIx items.size 0 lo:Nat):Int) == 0 && (1:Int) == 1 && (sIx items.size items.size hi - sIx items.size 0 lo) == items.size)=true then _ else _) _ _ s
 rw [if_neg hno,zkj]
 first
  | exact wpAny_bind (m:=Builtin.Tuple.tupleExact _) (wpAny_newObj_type (wpAny_pure ⟨_,rfl,wpAny_pure h⟩) htake)
  | exact wpAny_bind (m:=Builtin.Tuple.tupleExact _) (wpAny_newObj_type (wpAny_bind (wpAny_pure (wpAny_pure ⟨_,rfl,wpAny_pure h⟩))) htake)
  | exact wpAny_bind (wpAny_bind (m:=Builtin.Tuple.tupleExact _) (wpAny_newObj_type (wpAny_pure (wpAny_pure ⟨_,rfl,wpAny_pure h⟩)) htake))
  | exact wpAny_bind (wpAny_bind (m:=Builtin.Tuple.tupleExact _) (wpAny_newObj_type (wpAny_pure ⟨_,rfl,wpAny_pure h⟩) htake))
end
end HT
namespace L2
open PySem PySem.Spec PyProof.Rows
abbrev TO:=St→Hp→(Option Int→Hp→Prop)→Prop
def PO (X:Cx) (e:Option Expr) (t:TO):Prop :=
 ∀ (pins:List (Addr × Obj)) (s:Shared) (σ:St) (H:Hp) (Q:Option Int→Hp→Prop),Inv X pins σ H s→t σ H Q →
  wpAny (model X.prog X.w) X.A (evalPart e X.env) (fun u s'=>∃ o H',Inv X pins σ H' s'∧IsPart u o∧Q o H') X.xe s
def zma:TO:=fun _ H Q=>Q none H
def zn5 (t:TE):TO:=fun σ H Q=>t σ H fun x H1=>∃ i,x = .int i∧Q (some i) H1
theorem intsAre_of {ns:List Int}:∀ {us:List Value},Vals (ns.map V.int) us→IntsAre us ns:=by
 induction ns with
 | nil=>intro us r;rw [List.map_nil] at r;cases r;exact .nil
 | cons n ns ih =>
  intro us r
  rw [List.map_cons] at r
  cases r with
  | cons r1 r2 =>
   obtain ⟨t,e⟩:=r1
   subst e
   exact .cons n t (ih r2)
section
variable {X:Cx} {e:Expr} {te:TE} {lo hi:Option Expr} {tl th:TO} {pos p2:Pos}
theorem zlV:PO X none zma:=by
 intro pins s σ H Q I h
 rw [evalPart_none]
 exact wpAny_pure ⟨none,H,I, .none,h⟩
theorem zlz (h:PE X e te):PO X (some e) (zn5 te):=by
 intro pins s σ H Q I hw
 rw [evalPart_some]
 refine thn (h pins s σ H _ I hw) fun u s1 ⟨x,H1,I1,r1,q1⟩=>?_
 obtain ⟨i,rfl,q⟩:=q1
 obtain ⟨t,rfl⟩:=r1
 exact ⟨some i,H1,I1, .int i t,q⟩
def SlR (X:Cx) (r:V→Option Int→Option Int→Hp→VK→Prop):Prop :=
 ∀ (pins:List (Addr × Obj)) (s:Shared) (σ:St) (H:Hp) (x:V) (v vl vu:Value) (lo hi:Option Int) (sl:Addr) (Q:VK),Inv X pins σ H s→RelV x v→s.heap.IsSliceOf sl vl vu .none→IsPart vl lo→IsPart vu hi→r x lo hi H Q →
  ∃ T id,typeLookup (.type T) "__getitem__" = pure (some (.builtin id))∧s.TypeIs v T∧wpAny (model X.prog X.w) X.A (getItem v (.ref sl)) (EP X pins σ Q) X.xe s
theorem SlR.or {r r':V→Option Int→Option Int→Hp→VK→Prop} (h:SlR X r) (h':SlR X r'):SlR X (fun x lo hi H Q=>r x lo hi H Q∨r' x lo hi H Q):=by
 intro pins s σ H x v vl vu lo hi sl Q I rx hs pl pu q
 rcases q with q | q
 ·exact h pins s σ H x v vl vu lo hi sl Q I rx hs pl pu q
 ·exact h' pins s σ H x v vl vu lo hi sl Q I rx hs pl pu q
def tSl (r:V→Option Int→Option Int→Hp→VK→Prop) (te:TE) (tl th:TO):TE:=fun σ H Q=>te σ H fun x H1=>tl σ H1 fun l H2=>th σ H2 fun u H3=>r x l u H3 Q
theorem zkA {r:V→Option Int→Option Int→Hp→VK→Prop} (hr:SlR X r) (he:PE X e te) (hl:PO X lo tl) (hu:PO X hi th):PE X (.Subscript e (.Slice lo hi none p2) pos) (tSl r te tl th):=by
 intro pins s σ H Q I h
 refine Subscript_ (thn (he pins s σ H _ I h) fun v s1 ⟨x,H1,I1,r1,q1⟩=>?_)
 refine wpAny_Slice (thn (hl pins s1 σ H1 _ I1 q1) fun vl s2 ⟨l,H2,I2,pl,q2⟩=>thn (hu pins s2 σ H2 _ I2 q2) fun vu s3 ⟨u,H3,I3,pu,q3⟩=>?_)
 rw [evalPart_none]
 refine wpAny_pure ?_
 have I4:Inv X pins σ H3 { s3 with heap:=s3.heap.push { cls := .type "slice",data := .fields #[vl,vu, .none] } }:=I3.kept (t':=s3.toks) fun b ob q=>Heap.get?_push_of_some _ q
 obtain ⟨T,id,hT,ht,hg⟩:=hr pins { s3 with heap:=s3.heap.push { cls := .type "slice",data := .fields #[vl,vu, .none] } } σ H3 x v vl vu l u s3.heap.objs.size Q I4 r1 (Heap.IsSliceOf.new ..) pl pu q3
 show wpAny (model X.prog X.w) X.A (subscriptTail e (.Slice lo hi none p2) v (.ref s3.heap.objs.size)) (EP X pins σ Q) X.xe { s3 with heap:=s3.heap.push { cls := .type "slice",data := .fields #[vl,vu, .none] } }
 exact tail_any (ops:=[.ref s3.heap.objs.size,v]) ht hT hg (by with_unfolding_all rfl)
def cutV (xs:List V) (lo hi:Option Int):List V:=(xs.drop (HT.sIx xs.length 0 lo)).take (HT.sIx xs.length xs.length hi - HT.sIx xs.length 0 lo)
theorem ze3 (xs:List V) (lo hi:Option Int):(cutV xs lo hi).length ≤ xs.length:=by
 unfold cutV
 rw [List.length_take,List.length_drop]
 omega
def rSlT (K:PySem.W.Frag):V→Option Int→Option Int→Hp→VK→Prop:=fun x lo hi H Q=>∃ a xs,x = .ref a∧SqT K H a xs ∧
 ¬ (HT.sIx xs.length 0 lo=0∧HT.sIx xs.length xs.length hi=xs.length)∧∀ p,H p=none→Q (.ref p) (upd H p (.tup (cutV xs lo hi)))
theorem zmE:SlR X (rSlT X.K):=by
 intro pins s σ H x v vl vu lo hi sl Q I rx hs pl pu h
 obtain ⟨a,xs,rfl,hx,hw,q⟩:=h
 cases rx
 obtain ⟨its,r,ht,hz⟩:=I.tuple hx
 have hlen:its.toArray.size=xs.length:=by rw [List.size_toArray];exact r.length.symm
 refine ⟨"tuple",_,PyProof.Rows.slot_tuple_getitem.lookup,ht.typeIs,?_⟩
 refine HT.zdD ht hs pl pu (by rw [hlen];exact hw) ?_ (by rw [hlen];exact hz)
 rw [hlen]
 refine ⟨.ref s.heap.objs.size,_,I.laid (t':=s.toks) (o := .tup (cutV xs lo hi)) (fun b ob q=>Heap.get?_push_of_some _ q) (Nat.le_refl _) ?_,rfl,q _ (I.hok.fresh (Nat.le_refl _))⟩
 exact ⟨Nat.le_trans (ze3 xs lo hi) hz,_,(r.drop (HT.sIx xs.length 0 lo)).take (HT.sIx xs.length xs.length hi - HT.sIx xs.length 0 lo),IsTup.new _ _⟩
def zn7 (K:PySem.W.Frag):R2:=fun x y H Q=>∃ a b xs ys,x = .ref a∧y = .ref b∧SqT K H a xs∧SqT K H b ys∧xs ≠ []∧xs.length + ys.length ≤ sizeLine ∧
 (ys=[]→Q (.ref a) H)∧(ys ≠ []→∀ p,H p=none→Q (.ref p) (upd H p (.tup (xs ++ ys))))
theorem Vals.zha {xs:List V} {us:List Value} (r:Vals xs us):us=[]↔xs=[]:=by
 cases r with
 | nil=>simp
 | cons _ _=>simp
theorem zmm:OpR X (binaryOp .Add) (zn7 X.K):=by
 intro pins s σ H x y v u Q I rx ry h
 obtain ⟨a,b,xs,ys,rfl,rfl,ha,hb,hx,hz,q1,q2⟩:=h
 cases rx
 cases ry
 obtain ⟨its,r1,p1,_⟩:=I.tuple ha
 obtain ⟨its2,r2,p2,_⟩:=I.tuple hb
 refine HT.zl5 p1 p2 (fun z=>hx (r1.zha.mp z)) (fun z=>⟨.ref a,H,I,rfl,q1 (r2.zha.mp z)⟩) (fun z=>?_) (by rw [← r1.length,← r2.length];exact hz)
 refine ⟨.ref s.heap.objs.size,_,I.laid (t':=s.toks) (o := .tup (xs ++ ys)) (fun b ob q=>Heap.get?_push_of_some _ q) (Nat.le_refl _) ?_,rfl,q2 (fun w=>z (r2.zha.mpr w)) _ (I.hok.fresh (Nat.le_refl _))⟩
 exact ⟨by rw [List.length_append];exact hz,_,r1.append r2,IsTup.new _ _⟩
end
end L2
namespace L2
open PySem PySem.Spec PyProof.Rows
def ixN (n:Nat) (i:Int):Option Nat:=if 0 ≤ i then (if i < n then some i.toNat else none) else if -(n:Int) ≤ i then some (i + n).toNat else none
def atI {α:Type} (xs:List α) (i:Int):Option α:=(ixN xs.length i).bind fun j=>xs[j]?
theorem ziR {n:Nat} {i:Int} {j:Nat} (h:ixN n i=some j):seqIndex? i n=some j∧j < n∧-(n:Int) ≤ i∧i < n:=by
 unfold ixN at h
 by_cases h0:0 ≤ i
 ·rw [if_pos h0] at h
  by_cases h1:i < n
  ·rw [if_pos h1] at h
   have e:i.toNat=j:=Option.some.inj h
   exact ⟨by rw [seqIndex_of h0 h1,e],by omega,by omega,h1⟩
  ·rw [if_neg h1] at h;cases h
 ·rw [if_neg h0] at h
  by_cases h1 : -(n:Int) ≤ i
  ·rw [if_pos h1] at h
   have e:(i + n).toNat=j:=Option.some.inj h
   exact ⟨by rw [seqIndex_neg (by omega) h1,e],by omega,h1,by omega⟩
  ·rw [if_neg h1] at h;cases h
theorem zg7 {α:Type} {xs:List α} {i:Int} {v:α} (h:atI xs i=some v):∃ j,seqIndex? i xs.length=some j∧xs[j]? = some v∧j < xs.length∧-(xs.length:Int) ≤ i∧i < xs.length:=by
 unfold atI at h
 cases e:ixN xs.length i with
 | none=>rw [e] at h;cases h
 | some j =>
  rw [e] at h
  obtain ⟨h1,h2,h3,h4⟩:=ziR e
  exact ⟨j,h1,h,h2,h3,h4⟩
def zim (b:Expr):Prop:=∀ o i,subscripted b false o i=operate [o,i] (getItem o i)
def IxR (X:Cx) (r:R2):Prop :=
 ∀ (value slice:Expr) (pins:List (Addr × Obj)) (s:Shared) (σ:St) (H:Hp) (x y:V) (v u:Value) (Q:VK),Inv X pins σ H s→RelV x v→RelV y u→r x y H Q →
  subscripted slice false v u=operate [v,u] (getItem v u)→wpAny (model X.prog X.w) X.A (subscriptTail value slice v u) (EP X pins σ Q) X.xe s
def MtR (X:Cx) (id:String) (r:V→List V→Hp→VK→Prop):Prop :=
 ∀ (pins:List (Addr × Obj)) (s:Shared) (σ:St) (H:Hp) (x:V) (xs:List V) (v:Value) (us:List Value) (Q:VK),Inv X pins σ H s→RelV x v→Vals xs us→r x xs H Q →
  wpAny (model X.prog X.w) X.A (call (.builtin id) (v :: us)) (EP X pins σ Q) X.xe s
section
variable {X:Cx} {a b:Expr} {ta tb:TE} {pos:Pos}
theorem IxR.or {r r':R2} (h:IxR X r) (h':IxR X r'):IxR X (fun x y H Q=>r x y H Q∨r' x y H Q):=by
 intro value slice pins s σ H x y v u Q I rx ry q hs
 rcases q with q | q
 ·exact h value slice pins s σ H x y v u Q I rx ry q hs
 ·exact h' value slice pins s σ H x y v u Q I rx ry q hs
theorem MtR.or {id:String} {r r':V→List V→Hp→VK→Prop} (h:MtR X id r) (h':MtR X id r'):MtR X id (fun x xs H Q=>r x xs H Q∨r' x xs H Q):=by
 intro pins s σ H x xs v us Q I rx rs q
 rcases q with q | q
 ·exact h pins s σ H x xs v us Q I rx rs q
 ·exact h' pins s σ H x xs v us Q I rx rs q
theorem zoM {r:R2} (hr:IxR X r) (ha:PE X a ta) (hb:PE X b tb) (hs:zim b):PE X (.Subscript a b pos) (tOp r ta tb):=by
 intro pins s σ H Q I h
 exact Subscript_ (binT ha hb I h fun v u s2 x y H2 I2 rx ry q=>hr a b pins s2 σ H2 x y v u Q I2 rx ry q (hs _ _))
def rIxL (K:PySem.W.Frag):R2:=fun x y H Q=>∃ p xs i v,x = .ref p∧y = .int i∧SqL K H p xs∧atI xs i=some v∧Q v H
def rIxT (K:PySem.W.Frag):R2:=fun x y H Q=>∃ p xs i v,x = .ref p∧y = .int i∧SqT K H p xs∧atI xs i=some v∧Q v H
def rIxS:R2:=fun x y H Q=>∃ z i c,x = .str z∧y = .int i∧z.length ≤ sizeLine∧atI z.cps.toList i=some c∧Q (.str ⟨#[c]⟩) H
theorem zl6:IxR X (rIxL X.K):=by
 intro value slice pins s σ H x y v u Q I rx ry h hs
 obtain ⟨p,xs,i,z,rfl,rfl,hq,he,q⟩:=h
 cases rx
 obtain ⟨t,rfl⟩:=ry
 obtain ⟨its,r,pl,hz⟩:=I.list hq
 obtain ⟨j,h1,h2,h3,h4,h5⟩:=zg7 he
 obtain ⟨w,ew,rw'⟩:=r.get h2
 have hl:=r.length
 have hn:=zgr
 have fin:EP X pins σ Q w s:=⟨z,H,I,rw',q⟩
 by_cases h0:0 ≤ i
 ·have hj:i.toNat=j:=by
   rw [seqIndex_of h0 h5] at h1
   exact Option.some.inj h1
  exact item_listR pl.isList h0 (by omega) (by rw [hj];simpa using ew) fin hs
 ·have hj:(i + (its.toArray.size:Int)).toNat=j:=by
   rw [seqIndex_neg (by omega) h4] at h1
   rw [List.size_toArray,← hl]
   exact Option.some.inj h1
  exact subscriptTail_builtinR (x:=w) pl.isList.typeIs slot_list_getitem.lookup
   (wpAny_getItem_list_neg (Q:=fun r s'=>r=w∧EP X pins σ Q r s') pl.isList (by omega) (by rw [List.size_toArray] <;> omega) (by omega) (by rw [hj];simpa using ew) ⟨rfl,fin⟩) hs
theorem znM:IxR X (rIxT X.K):=by
 intro value slice pins s σ H x y v u Q I rx ry h hs
 obtain ⟨p,xs,i,z,rfl,rfl,hq,he,q⟩:=h
 cases rx
 obtain ⟨t,rfl⟩:=ry
 obtain ⟨its,r,pl,hz⟩:=I.tuple hq
 obtain ⟨j,h1,h2,h3,h4,h5⟩:=zg7 he
 obtain ⟨w,ew,rw'⟩:=r.get h2
 have hl:=r.length
 have hn:=zgr
 have fin:EP X pins σ Q w s:=⟨z,H,I,rw',q⟩
 exact subscriptTail_builtinR (x:=w) pl.typeIs slot_tuple_getitem.lookup
  (getItem_tuple (j:=j) (Q:=fun r s'=>r=w∧EP X pins σ Q r s') pl (by omega) (by omega) (by rw [List.size_toArray,← hl];exact h1) (by simpa using ew) ⟨rfl,fin⟩) hs
theorem zn1:IxR X rIxS:=by
 intro value slice pins s σ H x y v u Q I rx ry h hs
 obtain ⟨z,i,c,rfl,rfl,hz,he,q⟩:=h
 obtain ⟨t,rfl⟩:=rx
 obtain ⟨t',rfl⟩:=ry
 obtain ⟨j,h1,h2,h3,h4,h5⟩:=zg7 he
 have hl:z.cps.toList.length=z.length:=by simp [Str.length]
 rw [hl] at h1 h4 h5
 have hn:=zgr
 exact tail_any (typeIs_str s z t) slot_str_getitem.lookup (getItem_str (c:=c) (by
  have e1:decide (i < -(2 ^ 63:Int))=false:=decide_eq_false (by omega)
  have e2:decide (i ≥ 2 ^ 63)=false:=decide_eq_false (by omega)
  rw [e1,e2,Bool.or_false]) (by rw [h1];simpa using h2) ⟨.str ⟨#[c]⟩,H,I.tok _,⟨_,rfl⟩,q⟩) hs
def rIx (K:PySem.W.Frag):R2:=fun x y H Q=>rIxL K x y H Q∨rIxT K x y H Q∨rIxS x y H Q
theorem znG:IxR X (rIx X.K):=zl6.or (znM.or zn1)
theorem zhT (its:List Value) (n j:Nat) (u:Value):Obj.mapSeq (·.setIfInBounds j u) { cls := .type "list",data := .seq its.toArray n } = { cls := .type "list",data := .seq (its.set j u).toArray n }:=by
 simp [Obj.mapSeq]
theorem Inv.lst {pins:List (Addr × Obj)} {σ:St} {H:Hp} {s:Shared} {p:Addr} {xs:List V} (I:Inv X pins σ H s) (h:H p=some (.lst xs)) :
  ∃ (its:List Value) (n:Nat),Vals xs its∧s.heap.get? p=some { cls := .type "list",data := .seq its.toArray n }∧xs.length ≤ sizeLine:=by
 obtain ⟨z,its,n,r,e⟩:=I.hok p _ h
 exact ⟨its,n,r,e,z⟩
theorem Inv.zmy {pins:List (Addr × Obj)} {σ:St} {H:Hp} {s:Shared} {p:Addr} {xs ys:List V} {its its':List Value} {n n':Nat} {f:Obj→Obj} (I:Inv X pins σ H s) (h:H p=some (.lst xs))
  (ho:s.heap.get? p=some { cls := .type "list",data := .seq its.toArray n }) (hf:f { cls := .type "list",data := .seq its.toArray n } = { cls := .type "list",data := .seq its'.toArray n' }) (r:Vals ys its') (hz:ys.length ≤ sizeLine) (t:Nat) :
  Inv X pins σ (upd H p (.lst ys)) { s with heap:=s.heap.update p f,toks:=t }:=by
 have e:(s.heap.update p f).get? p=some { cls := .type "list",data := .seq its'.toArray n' }:=by
  rw [Heap.get?_update_self f ho (by rw [hf] <;> rfl),hf]
 refine I.write (x:=p) (e:=p) (by rw [h];trivial) (.inl rfl) (fun b u hb q=>(Heap.get?_update_other _ _ (Ne.symm hb)).trans q) ⟨_,e⟩ ?_
 exact ⟨hz,its',n',r,e⟩
def zop:V→V→V→Hp→(Hp→Prop)→Prop:=fun o i v H Q=>∃ p xs k j,o = .ref p∧i = .int k∧H p=some (.lst xs)∧ixN xs.length k=some j∧Q (upd H p (.lst (xs.set j v)))
theorem set_list:PSet X zop:=by
 intro pins s σ H o i v ov iv u Q I ro ri rv h
 obtain ⟨p,xs,k,j,rfl,rfl,hp,hj,q⟩:=h
 cases ro
 obtain ⟨t,rfl⟩:=ri
 obtain ⟨its,n,r,ho,hz⟩:=I.lst hp
 obtain ⟨h1,h2,h3,h4⟩:=ziR hj
 have hl:=r.length
 have hn:=zgr
 have I':Inv X pins σ (upd H p (.lst (xs.set j v))) { s with heap:=s.heap.update p (Obj.mapSeq (·.setIfInBounds j u)) } :=
  I.zmy hp ho (zhT its n j u) (r.set rv j) (by rw [List.length_set];exact hz) s.toks
 by_cases h0:0 ≤ k
 ·have hk:k.toNat=j:=by
   rw [seqIndex_of h0 h4] at h1
   exact Option.some.inj h1
  exact PySem.W.ki_setAt ho h0 (by omega) (by rw [List.size_toArray,← hl];exact h4) (by rw [hk];exact ⟨_,I',q⟩)
 ·have hk:(k + (its.toArray.size:Int)).toNat=j:=by
   rw [seqIndex_neg (by omega) h3] at h1
   rw [List.size_toArray,← hl]
   exact Option.some.inj h1
  exact PySem.W.ki_setBack ho (by omega) (by rw [List.size_toArray,← hl];exact h3) (by omega) (by rw [hk];exact ⟨_,I',q⟩)
theorem zgz (lo hi:Option Int) (n:Nat):(sliceBounds lo hi none n).1=((HT.sIx n 0 lo:Nat):Int)∧(sliceBounds lo hi none n).2.1=((HT.sIx n n hi:Nat):Int)∧(sliceBounds lo hi none n).2.2=1:=by
 refine ⟨?_,?_,rfl⟩
 ·cases lo with
  | none=>simp [sliceBounds,HT.sIx]
  | some i =>
   simp only [sliceBounds,HT.sIx,Option.getD_none,show (1:Int) > 0 by decide,if_true]
   by_cases h:i < 0
   ·simp only [h,if_true] <;> omega
   ·simp only [h,if_false] <;> omega
 ·cases hi with
  | none=>simp [sliceBounds,HT.sIx]
  | some i =>
   simp only [sliceBounds,HT.sIx,Option.getD_none,show (1:Int) > 0 by decide,if_true]
   by_cases h:i < 0
   ·simp only [h,if_true] <;> omega
   ·simp only [h,if_false] <;> omega
theorem zfW (its:List Value) (lo hi:Option Int):slicePick its.toArray lo hi none=((its.drop (HT.sIx its.length 0 lo)).take (HT.sIx its.length its.length hi - HT.sIx its.length 0 lo)).toArray:=by
 obtain ⟨h1,h2,h3⟩:=zgz lo hi its.toArray.size
 unfold slicePick
 rw [h1,h2,h3]
 simp only [sliceRange_one,pick_run,List.size_toArray] <;> rfl
def rSlL (K:PySem.W.Frag):V→Option Int→Option Int→Hp→VK→Prop:=fun x lo hi H Q=>∃ a xs,x = .ref a∧SqL K H a xs∧∀ p,H p=none→Q (.ref p) (upd H p (.lst (cutV xs lo hi)))
theorem zlY:SlR X (rSlL X.K):=by
 intro pins s σ H x v vl vu lo hi sl Q I rx hs pl pu h
 obtain ⟨a,xs,rfl,hx,q⟩:=h
 cases rx
 obtain ⟨its,r,ht,hz⟩:=I.list hx
 have hlen:=r.length
 refine ⟨"list",_,slot_list_getitem.lookup,ht.isList.typeIs,?_⟩
 refine wpAny_getItem_list_slice ht.isList hs pl pu .none (by simp) ?_ (by rw [List.size_toArray] <;> omega)
 rw [zfW,← hlen]
 refine ⟨.ref s.heap.objs.size,_,I.laid (t':=s.toks) (o := .lst (cutV xs lo hi)) (fun b ob q=>Heap.get?_push_of_some _ q) (Nat.le_refl _) ?_,rfl,q _ (I.hok.fresh (Nat.le_refl _))⟩
 exact ⟨Nat.le_trans (ze3 xs lo hi) hz,_,0,(r.drop (HT.sIx xs.length 0 lo)).take (HT.sIx xs.length xs.length hi - HT.sIx xs.length 0 lo),Heap.get?_push_size _ rfl⟩
theorem zgl:zeh X (.builtin "len") (fun xs H Q=>∃ p ys,xs=[.ref p]∧(SqL X.K H p ys∨SqT X.K H p ys)∧Q (.int ys.length) H):=by
 intro pins s σ H xs us Q I r h
 obtain ⟨p,ys,rfl,hq,q⟩:=h
 obtain ⟨u,rfl,rx⟩:=vals1 r
 cases rx
 have hn:=zgr
 rcases hq with hq | hq
 ·obtain ⟨its,r',pl,hz⟩:=I.list hq
  have hlen:=r'.length
  exact Calls.call_len_list pl.isList (by simp only [List.size_toArray] <;> omega) ⟨.int ys.length,H,I.tok _,⟨s.toks + 1,by rw [List.size_toArray,hlen]⟩,q⟩
 ·obtain ⟨its,r',pl,hz⟩:=I.tuple hq
  have hlen:=r'.length
  exact len_tuple pl (by simp only [List.size_toArray] <;> omega) ⟨.int ys.length,H,I.tok _,⟨s.toks + 1,by rw [List.size_toArray,hlen]⟩,q⟩
theorem zeh.or {f:Value} {r r':List V→Hp→VK→Prop} (h:zeh X f r) (h':zeh X f r'):zeh X f (fun xs H Q=>r xs H Q∨r' xs H Q):=by
 intro pins s σ H xs us Q I rs q
 rcases q with q | q
 ·exact h pins s σ H xs us Q I rs q
 ·exact h' pins s σ H xs us Q I rs q
def tyV (K:PySem.W.Frag) (T:String) (x:V) (H:Hp):Prop:=match x with
 | .str _=>T = "str"
 | .int _=>T = "int"
 | .ref p=>(T = "list"∧∃ xs,SqL K H p xs)∨(T = "tuple"∧∃ o,K.lookup p=some o∧o.cls = .type "tuple"∧o.dict=none) ∨
   (T = "dict"∧((∃ kvs,H p=some (.dK kvs))∨∃ kvs,H p=some (.dT kvs)))∨(T = "set"∧∃ S n,H p=some (.set S n))
 | _=>False
theorem zmY {pins:List (Addr × Obj)} {σ:St} {H:Hp} {s:Shared} {T:String} {x:V} {v:Value} (I:Inv X pins σ H s) (r:RelV x v) (ty:tyV X.K T x H) :
  s.TypeIs v T∧∀ a,v = .ref a→∃ ob,s.heap.get? a=some ob∧ob.dict=none:=by
 cases x with
 | str z =>
  obtain ⟨t,rfl⟩:=r
  cases (show T = "str" from ty)
  exact ⟨typeIs_str s z t,fun _ e=>nomatch e⟩
 | int i =>
  obtain ⟨t,rfl⟩:=r
  cases (show T = "int" from ty)
  exact ⟨typeIs_int s i t,fun _ e=>nomatch e⟩
 | ref p =>
  cases r
  rcases ty with ⟨rfl,xs,hq⟩ | ⟨rfl,o,hk,hc,hd⟩ | ⟨rfl,hk⟩ | ⟨rfl,S,n,hk⟩
  ·obtain ⟨its,_,pl,_⟩:=I.list hq
   refine ⟨pl.isList.typeIs,fun a e=>?_⟩
   cases e
   obtain ⟨o,n,e,c,hd,_⟩:=pl
   exact ⟨o,e,hd⟩
  ·refine ⟨⟨o,I.kIn p o hk,hc⟩,fun a e=>?_⟩
   cases e
   exact ⟨o,I.kIn _ o hk,hd⟩
  ·have z:∃ o,s.heap.get? p=some o∧o.ExactDict:=by
    rcases hk with ⟨kvs,hk⟩ | ⟨kvs,hk⟩
    ·obtain ⟨_,_,_,_,o,_,_,e,ex,_⟩:=I.hok p _ hk
     exact ⟨o,e,ex⟩
    ·obtain ⟨_,_,_,_,o,_,_,e,ex,_⟩:=I.hok p _ hk
     exact ⟨o,e,ex⟩
   obtain ⟨o,e,ex⟩:=z
   refine ⟨⟨o,e,ex.1⟩,fun a e2=>?_⟩
   cases e2
   exact ⟨o,e,ex.2.1⟩
  ·obtain ⟨o,_,_,_,e,ex,_⟩:=I.hok p _ hk
   refine ⟨⟨o,e,ex.1⟩,fun a e2=>?_⟩
   cases e2
   exact ⟨o,e,ex.2.1⟩
 | _=>exact False.elim ty
def tBM (K:PySem.W.Frag) (T:String) (r:V→List V→Hp→VK→Prop) (to:TE) (t:TA):TE:=fun σ H Q=>to σ H fun x H1=>tyV K T x H1∧t σ H1 fun xs H2=>r x xs H2 Q
variable {o e:Expr} {es:List Expr} {to:TE} {t:TA} {name:Str} {apos cpos:Pos} {T id:String} {r:V→List V→Hp→VK→Prop}
theorem zmZ (pa:PlainAttrs T) (slot:Slot T name id) (hty:typeOf (.builtin id)=pure (.type "method_descriptor")) (hm:MtR X id r) (ho:PE X o to) (ha:PA X (e :: es) t)
  (hbase:attributeBase o name X.env (eval o X.env)=eval o X.env:=by rfl)
  (hfew:((backTo cpos (starEach (e :: es) X.env)).all (fun x=>!x.1) && (backToKw cpos (keywordEach [] X.env)).all (fun x=>x.1.isSome)
   && decide ((e :: es).length + ([] : List Keyword).length + (if ([] : List Keyword).isEmpty then 0 else 1) < 30))=true:=by rfl)
  (hline:(apos.endLine == cpos.line)=true:=by rfl) (hs:starEach (e :: es) X.env=(false,eval e X.env) :: starEach es X.env:=by rfl) (hplain:(backTo cpos (starEach es X.env)).any (·.1)=false:=by rfl) :
  PE X (.Call (.Attribute o name apos) (e :: es) [] cpos) (tBM X.K T r to t):=by
 intro pins s σ H Q I h
 refine wpAny_Call_method_late hbase hfew hline rfl (thn (ho pins s σ H _ I h) fun v s1 ⟨x,H1,I1,r1,ty,q1⟩=>?_)
 obtain ⟨h1,h2⟩:=zmY I1 r1 ty
 refine ⟨T,id,pa,slot,hty,h1,h2,?_⟩
 have hA:=ha cpos pins s1 σ H1 _ I1 q1
 rw [hs] at hA ⊢
 refine Calls.callWith_builtin (by show (false || (backTo cpos (starEach es X.env)).any (·.1))=false;rw [hplain] <;> rfl) (Calls.evalArgs_plain ?_)
 exact thn hA fun us s2 ⟨vs,H2,I2,r2,q2⟩=>hm pins s2 σ H2 x vs v us Q I2 r1 r2 q2
end
end L2
namespace L2
open PySem PySem.Spec PyProof.Rows
def MtM (X:Cx) (id:String) (r:V→List V→Hp→VK→Prop):Prop :=
 ∀ (pins:List (Addr × Obj)) (s:Shared) (σ:St) (H:Hp) (x:V) (xs:List V) (v:Value) (us:List Value) (Q:VK),Inv X pins σ H s→RelV x v→Vals xs us→r x xs H Q →
  wpAny (model X.prog X.w) X.A (call (.builtin id) (v :: us)) (EP X pins σ Q) X.xe s
theorem Vals.one:∀ {x:V} {us:List Value},Vals [x] us→∃ u,us=[u]∧RelV x u
 | _,_, .cons r .nil=>⟨_,rfl,r⟩
theorem Vals.two:∀ {x y:V} {us:List Value},Vals [x,y] us→∃ u v,us=[u,v]∧RelV x u∧RelV y v
 | _,_,_, .cons r (.cons q .nil)=>⟨_,_,rfl,r,q⟩
theorem Vals.zero:∀ {us:List Value},Vals [] us→us=[]
 | _, .nil=>rfl
section
variable {X:Cx} {pins:List (Addr × Obj)} {σ:St} {H:Hp} {s:Shared} {l b:Addr} {xs ys zs:List V}
theorem Inv.lset {its its':List Value} {n:Nat} {f:Array Value→Array Value} {t':Nat} (I:Inv X pins σ H s) (hH:H l=some (.lst xs))
  (e:s.heap.get? l=some { cls := .type "list",data := .seq its.toArray n }) (hf:f its.toArray=its'.toArray) (hv:Vals ys its') (hz:ys.length ≤ sizeLine) :
  Inv X pins σ (upd H l (.lst ys)) { s with heap:=s.heap.update l (Obj.mapSeq f),toks:=t' }:=by
 have q:=PySem.IsL.update e f
 rw [hf] at q
 refine I.write (x:=l) (e:=l) (by rw [hH];exact trivial) (.inl rfl) (fun b' u hb hu=>(Heap.get?_update_other s.heap (Obj.mapSeq f) (Ne.symm hb)).trans hu) ⟨_,q⟩ ?_
 exact ⟨hz,its',_,hv,q⟩
theorem Inv.lnew {its:List Value} {t':Nat} (I:Inv X pins σ H s) (hv:Vals ys its) (hz:ys.length ≤ sizeLine) :
  Inv X pins σ (upd H s.heap.objs.size (.lst ys)) { s with heap:=s.heap.push { cls := .type "list",data := .seq its.toArray },toks:=t' } :=
 I.laid (fun _ _ q=>Heap.get?_push_of_some _ q) (Nat.le_refl _) ⟨hz,its,0,hv,Heap.get?_push_size _ rfl⟩
theorem Inv.fresh (I:Inv X pins σ H s):H s.heap.objs.size=none:=I.hok.fresh (Nat.le_refl _)
theorem Inv.lstM (I:Inv X pins σ H s) (hH:H l=some (.lst xs)):xs.length ≤ sizeLine∧∃ (its:List Value) (n:Nat),Vals xs its∧xs.length=its.length∧s.heap.get? l=some { cls := .type "list",data := .seq its.toArray n }:=by
 obtain ⟨z,its,n,r,e⟩:=I.hok l _ hH
 exact ⟨z,its,n,r,r.length,e⟩
theorem zjz {n:Nat} (h:n ≤ sizeLine):Builtin.List.listTooLong n=false:=by
 unfold Builtin.List.listTooLong
 exact decide_eq_false (by omega)
end
section
variable {X:Cx}
def ziw:V→List V→Hp→VK→Prop:=fun x vs H Q=>∃ l xs y,x = .ref l∧vs=[y]∧H l=some (.lst xs)∧xs.length < sizeLine∧Q .non (upd H l (.lst (xs ++ [y])))
theorem zeu:MtM X "list.append" ziw:=by
 intro pins s σ H x vs v us Q I rx rv h
 obtain ⟨l,xs,y,rfl,rfl,hH,hz,q⟩:=h
 cases rx
 obtain ⟨u,rfl,ru⟩:=rv.one
 obtain ⟨z,its,n,r,hl,e⟩:=I.lstM hH
 refine call_meets F.slot_list_append ⟨_,e,rfl⟩ F.entry_list_append (F.args_list_append_2 _ _) (PySem.list_append l its.toArray n u (by rw [List.size_toArray];omega)) ⟨e,?_⟩
 refine ⟨.non,_,I.lset (its':=its ++ [u]) hH e (by simp) (r.append (.cons ru .nil)) ?_,rfl,q⟩
 rw [List.length_append,List.length_singleton]
 omega
def ziX:V→List V→Hp→VK→Prop:=fun x vs H Q=>∃ l b xs zs,x = .ref l∧vs=[.ref b]∧H l=some (.lst xs)∧H b=some (.lst zs)∧xs.length + zs.length ≤ sizeLine∧Q .non (upd H l (.lst (xs ++ zs)))
theorem ziM:MtM X "list.extend" ziX:=by
 intro pins s σ H x vs v us Q I rx rv h
 obtain ⟨l,b,xs,zs,rfl,rfl,hH,hB,hz,q⟩:=h
 cases rx
 obtain ⟨u,rfl,ru⟩:=rv.one
 cases ru
 obtain ⟨z,its,n,r,hl,e⟩:=I.lstM hH
 obtain ⟨z2,its2,n2,r2,hl2,e2⟩:=I.lstM hB
 have hsz:its.toArray.size + its2.toArray.size ≤ sizeLine:=by rw [List.size_toArray,List.size_toArray];omega
 have hlong:¬ (!its.toArray.isEmpty && Builtin.List.listTooLong (its.toArray.size + its2.toArray.size))=true:=by
  rw [zjz hsz,Bool.and_false]
  exact Bool.false_ne_true
 refine call_meets F.slot_list_extend ⟨_,e,rfl⟩ F.entry_list_extend (F.args_list_extend_2 _ _)
  (AutoSeq1.list_extend_list_list_0 l its.toArray n b its2.toArray n2 hlong (by rw [List.size_toArray];omega) (by omega)) ⟨e,e2,?_⟩
 refine ⟨.non,_,I.lset (its':=its ++ its2) hH e (by simp) (r.append r2) ?_,rfl,q⟩
 rw [List.length_append]
 omega
def rCat:R2:=fun x y H Q=>∃ l b xs zs,x = .ref l∧y = .ref b∧H l=some (.lst xs)∧H b=some (.lst zs)∧xs.length + zs.length ≤ sizeLine∧∀ p,H p=none→Q (.ref p) (upd H p (.lst (xs ++ zs)))
theorem zmQ:OpR X (binaryOp .Add) rCat:=by
 intro pins s σ H x y v u Q I rx ry h
 obtain ⟨l,b,xs,zs,rfl,rfl,hH,hB,hz,q⟩:=h
 cases rx
 cases ry
 obtain ⟨z,its,n,r,hl,e⟩:=I.lstM hH
 obtain ⟨z2,its2,n2,r2,hl2,e2⟩:=I.lstM hB
 refine PySem.P.add_list e e2 ?_ (by rw [List.size_toArray,List.size_toArray];omega)
 have ea:its.toArray ++ its2.toArray=(its ++ its2).toArray:=by simp
 rw [ea]
 exact ⟨.ref _,_,I.lnew (t':=s.toks) (r.append r2) (by rw [List.length_append];omega),rfl,q _ I.fresh⟩
end
section
variable {prog:Program} {w:World} {A:Around} {E:Value→Shared→Prop} {s:Shared}
end
section
variable {X:Cx}
end
end L2
namespace L2
open PySem PySem.Spec PyProof.Rows
section
variable {κ:Type} [DecidableEq κ]
def valV (kvs:List (κ × V)) (k:κ):Option V:=(kvs.find? fun kv=>decide (kv.1=k)).map (·.2)
def putK (kvs:List (κ × V)) (k:κ) (v:V):List (κ × V) :=
 if (kvs.any fun kv=>decide (kv.1=k))=true then kvs.map (fun kv=>if kv.1=k then (kv.1,v) else kv) else kvs ++ [(k,v)]
theorem zfB {p:κ × V} {r:List (κ × V)} {k:κ} (e:p.1=k):valV (p :: r) k=some p.2:=by simp [valV,List.find?_cons,e]
theorem zf3 {p:κ × V} {r:List (κ × V)} {k:κ} (e:¬ p.1=k):valV (p :: r) k=valV r k:=by simp [valV,List.find?_cons,e]
theorem zhC (k:κ):∀ kvs:List (κ × V),(kvs.any fun kv=>decide (kv.1=k))=(valV kvs k).isSome
 | []=>rfl
 | p :: r=>by
  rw [List.any_cons]
  by_cases e:p.1=k
  ·simp only [zfB e,decide_eq_true e,Bool.true_or,Option.isSome_some]
  ·rw [zf3 e,decide_eq_false e,Bool.false_or];exact zhC k r
theorem RelO.zin {o:Option V} {u:Option Value} (r:RelO o u):o.isSome=u.isSome:=by
 cases o with
 | none=>cases u with
  | none=>rfl
  | some _=>exact (show False from r).elim
 | some _=>cases u with
  | none=>exact (show False from r).elim
  | some _=>rfl
theorem RelO.getD {o:Option V} {u:Option Value} {d:V} {d':Value} (r:RelO o u) (rd:RelV d d'):RelV (o.getD d) (u.getD d'):=by
 cases o with
 | none=>cases u with
  | none=>exact rd
  | some _=>exact (show False from r).elim
 | some _=>cases u with
  | none=>exact (show False from r).elim
  | some _=>exact r
theorem KV.val {kvs:List (κ × V)} {vs:List (κ × Value)} (r:KV kvs vs) (k:κ):RelO (valV kvs k) (valueAt vs k):=by
 unfold KV at r
 induction r with
 | nil=>exact True.intro
 | @cons p q ps qs h t ih =>
  obtain ⟨h1,h2⟩:=h
  by_cases e:p.1=k
  ·have e':q.1=k:=h1.symm.trans e
   have b:valueAt (q :: qs) k=some q.2:=by simp [valueAt,List.find?_cons,e']
   rw [zfB e,b];exact h2
  ·have e':¬ q.1=k:=fun z=>e (h1.trans z)
   have b:valueAt (q :: qs) k=valueAt qs k:=by simp [valueAt,List.find?_cons,e']
   rw [zf3 e,b];exact ih
theorem KV.any {kvs:List (κ × V)} {vs:List (κ × Value)} (r:KV kvs vs) (k:κ):(kvs.any fun kv=>decide (kv.1=k))=vs.any fun kv=>decide (kv.1=k):=by
 unfold KV at r
 induction r with
 | nil=>rfl
 | cons h t ih=>rw [List.any_cons,List.any_cons,ih,h.1]
theorem KV.repl {kvs:List (κ × V)} {vs:List (κ × Value)} (r:KV kvs vs) (k:κ) {y:V} {u:Value} (ry:RelV y u) :
  KV (kvs.map fun kv=>if kv.1=k then (kv.1,y) else kv) (vs.map fun kv=>if kv.1=k then (kv.1,u) else kv):=by
 unfold KV at r ⊢
 induction r with
 | nil=>exact .nil
 | @cons p q ps qs h t ih =>
  rw [List.map_cons,List.map_cons]
  refine .cons ?_ ih
  obtain ⟨h1,h2⟩:=h
  by_cases e:p.1=k
  ·rw [if_pos e,if_pos (h1.symm.trans e)];exact ⟨h1,ry⟩
  ·rw [if_neg e,if_neg (fun z=>e (h1.trans z))];exact ⟨h1,h2⟩
theorem KV.put {kvs:List (κ × V)} {vs:List (κ × Value)} (r:KV kvs vs) (k:κ) {y:V} {u:Value} (ry:RelV y u):KV (putK kvs k y) (stored vs k u):=by
 unfold putK stored
 rw [r.any k]
 by_cases e:(vs.any fun kv=>decide (kv.1=k))=true
 ·rw [if_pos e,if_pos e];exact r.repl k ry
 ·rw [if_neg e,if_neg e];exact Paired.snoc r ⟨rfl,ry⟩
theorem KV.keys {kvs:List (κ × V)} {vs:List (κ × Value)} (r:KV kvs vs):kvs.map (·.1)=vs.map (·.1):=by
 unfold KV at r
 induction r with
 | nil=>rfl
 | cons h t ih=>rw [List.map_cons,List.map_cons,ih,h.1]
theorem KV.length {kvs:List (κ × V)} {vs:List (κ × Value)} (r:KV kvs vs):kvs.length=vs.length:=Paired.length r
end
abbrev KT (H:Hp):List (List Key × V)→List (List Key × Addr × Value)→Prop:=Paired fun p q=>p.1=q.1∧H q.2.1=some (.tup (p.1.map kV))∧RelV p.2 q.2.2
theorem KT.val {H:Hp} {kvs:List (List Key × V)} {xs:List (List Key × Addr × Value)} (r:KT H kvs xs) (k:List Key):RelO (valV kvs k) ((atKey xs k).map (·.2)):=by
 induction r with
 | nil=>exact True.intro
 | @cons p q ps qs h t ih =>
  obtain ⟨h1,_,h2⟩:=h
  by_cases e:p.1=k
  ·have e':q.1=k:=h1.symm.trans e
   have b:atKey (q :: qs) k=some q.2:=by simp [atKey,List.find?_cons,e']
   rw [zfB e,b];exact h2
  ·have e':¬ q.1=k:=fun z=>e (h1.trans z)
   have b:atKey (q :: qs) k=atKey qs k:=by simp [atKey,List.find?_cons,e']
   rw [zf3 e,b];exact ih
theorem KT.repl {H:Hp} {kvs:List (List Key × V)} {xs:List (List Key × Addr × Value)} (r:KT H kvs xs) (k:List Key) {y:V} {u:Value} (ry:RelV y u) :
  KT H (kvs.map fun kv=>if kv.1=k then (kv.1,y) else kv) (xs.map (putAt k u)):=by
 induction r with
 | nil=>exact .nil
 | @cons p q ps qs h t ih =>
  rw [List.map_cons,List.map_cons]
  refine .cons ?_ ih
  obtain ⟨h1,h2,h3⟩:=h
  unfold putAt
  by_cases e:p.1=k
  ·rw [if_pos e,if_pos (h1.symm.trans e)];exact ⟨h1,h2,ry⟩
  ·rw [if_neg e,if_neg (fun z=>e (h1.trans z))];exact ⟨h1,h2,h3⟩
theorem KT.put {H:Hp} {kvs:List (List Key × V)} {xs:List (List Key × Addr × Value)} (r:KT H kvs xs) (k:List Key) {b:Addr} {y:V} {u:Value} (hb:H b=some (.tup (k.map kV))) (ry:RelV y u) :
  KT H (putK kvs k y) (storedH xs k b u):=by
 have e:(kvs.any fun kv=>decide (kv.1=k))=(atKey xs k).isSome:=by
  rw [zhC,(r.val k).zin,Option.isSome_map]
 unfold putK storedH
 rw [e]
 by_cases q:(atKey xs k).isSome=true
 ·rw [if_pos q,if_pos q];exact r.repl k ry
 ·rw [if_neg q,if_neg q];exact Paired.snoc r ⟨rfl,hb,ry⟩
theorem KT.keeps {H H':Hp} {kvs:List (List Key × V)} {xs:List (List Key × Addr × Value)} (r:KT H kvs xs) (ht:∀ b ys,H b=some (.tup ys)→H' b=some (.tup ys)):KT H' kvs xs :=
 Paired.mapP r fun _ _ z=>⟨z.1,ht _ _ z.2.1,z.2.2⟩
section
variable {P:Program} {w:World} {H:Hp} {h:Heap} {a:Addr}
end
def DGet (H:Hp) (a:Addr) (y:V) (r:Option V):Prop :=
 (∃ kvs k,Rd H a (.dK kvs)∧y=kV k∧r=valV kvs k)∨∃ kvs k b,Rd H a (.dT kvs)∧y = .ref b∧H b=some (.tup (k.map kV))∧r=valV kvs k
def DPut (H:Hp) (a:Addr) (y v:V) (H':Hp):Prop :=
 (∃ kvs k,H a=some (.dK kvs)∧y=kV k∧kvs.length < sizeLine∧H'=upd H a (.dK (putK kvs k v))) ∨
 ∃ kvs k b,H a=some (.dT kvs)∧y = .ref b∧H b=some (.tup (k.map kV))∧kvs.length < sizeLine∧H'=upd H a (.dT (putK kvs k v))
theorem DGet.k {H:Hp} {a:Addr} {kvs:List (Key × V)} {k:Key} (e:H a=some (.dK kvs)):DGet H a (kV k) (valV kvs k) := .inl ⟨kvs,k, .inl e,rfl,rfl⟩
theorem DGet.t {H:Hp} {a b:Addr} {kvs:List (List Key × V)} {k:List Key} (e:H a=some (.dT kvs)) (eb:H b=some (.tup (k.map kV))):DGet H a (.ref b) (valV kvs k) := .inr ⟨kvs,k,b, .inl e,rfl,eb,rfl⟩
theorem DPut.k {H:Hp} {a:Addr} {kvs:List (Key × V)} {k:Key} {v:V} (e:H a=some (.dK kvs)) (hl:kvs.length < sizeLine):DPut H a (kV k) v (upd H a (.dK (putK kvs k v))) := .inl ⟨kvs,k,e,rfl,hl,rfl⟩
theorem DPut.t {H:Hp} {a b:Addr} {kvs:List (List Key × V)} {k:List Key} {v:V} (e:H a=some (.dT kvs)) (eb:H b=some (.tup (k.map kV))) (hl:kvs.length < sizeLine) :
  DPut H a (.ref b) v (upd H a (.dT (putK kvs k v))) := .inr ⟨kvs,k,b,e,rfl,eb,hl,rfl⟩
section
variable {X:Cx} {pins:List (Addr × Obj)} {σ:St} {H:Hp} {s:Shared} {a:Addr} {y v:V} {u r:Value} {o:Option V} {A:Around} {E:Value→Shared→Prop}
end
section
variable {X:Cx} {pins:List (Addr × Obj)} {σ:St} {H:Hp} {s:Shared} {a:Addr} {kvs:List (Key × V)} {k:Key} {u:Value} {A:Around} {E:Value→Shared→Prop}
end
section
variable {X:Cx} {o i e value:Expr} {pos pos' tpos:Pos} {td ty tv:TE}
end
section
variable {X:Cx} {pos:Pos}
end
structure M1 (X:Cx) (o:Expr) (m:Str) (apos:Pos) (e:Expr) (cpos:Pos):Prop where
 base:attributeBase o m X.env (eval o X.env)=eval o X.env
 few:((backTo cpos (starEach [e] X.env)).all (fun x=>!x.1) && (backToKw cpos (keywordEach [] X.env)).all (fun x=>x.1.isSome)
  && decide (([e] : List Expr).length + ([] : List Keyword).length + (if ([] : List Keyword).isEmpty then 0 else 1) < 30))=true
 line:(apos.endLine == cpos.line)=true
 trees:backTo cpos (starEach [e] X.env)=[(false,eval e X.env)]
structure M2 (X:Cx) (o:Expr) (m:Str) (apos:Pos) (e f:Expr) (cpos:Pos):Prop where
 base:attributeBase o m X.env (eval o X.env)=eval o X.env
 few:((backTo cpos (starEach [e,f] X.env)).all (fun x=>!x.1) && (backToKw cpos (keywordEach [] X.env)).all (fun x=>x.1.isSome)
  && decide (([e,f] : List Expr).length + ([] : List Keyword).length + (if ([] : List Keyword).isEmpty then 0 else 1) < 30))=true
 line:(apos.endLine == cpos.line)=true
 trees:backTo cpos (starEach [e,f] X.env)=[(false,eval e X.env),(false,eval f X.env)]
section
variable {X:Cx} {pins:List (Addr × Obj)} {σ:St} {H:Hp} {s:Shared} {a:Addr} {y d:V} {u r:Value} {o:Option V} {A:Around} {E:Value→Shared→Prop}
end
section
variable {X:Cx} {o e f:Expr} {apos cpos:Pos} {td ty tx:TE}
end
section
variable {X:Cx} {pins:List (Addr × Obj)} {σ:St} {H:Hp} {s:Shared} {a:Addr} {kvs:List (Key × V)} {A:Around} {E:Value→Shared→Prop}
end
section
variable {X:Cx} {pins:List (Addr × Obj)} {σ:St} {H:Hp} {s:Shared} {a:Addr} {y:V} {u:Value} {A:Around} {E:Value→Shared→Prop}
end
end L2
namespace Att
open PySem PySem.W PySem.Calls PyProof.Rows
theorem zeR {P:Params} {h:Heap}:∀ (ns:List Int) (vs:List Value),WellAll P h vs (ns.map WData.int)→IntsAre vs ns:=by
 intro ns
 induction ns with
 | nil =>
  intro vs w
  rw [List.map_nil] at w
  cases w
  exact .nil
 | cons n ns ih =>
  intro vs w
  rw [List.map_cons] at w
  cases w with
  | cons a b =>
   cases a
   exact .cons _ _ (ih _ b)
theorem ziz {l:OpenLaw} {n:Nat} (hn:l.most=some n) {P:Params} {h:Heap} {args:List WData} {vals:List Value}
  (hpre:l.row.toRowW.claim.pre args=true) (hwl:WellAll P h vals args) :
  ∃ a vs ns,vals=[Value.ref a]∧args=[WData.list (ns.map WData.int)]∧h.get? a=some { cls := .type "list",data := .seq vs.toArray }∧IntsAre vs ns∧ns.length ≤ n:=by
 have hsh:WShape.hasAll [] args [.list .int]=true:=(pre_splitW hpre).1
 have hc:l.pre.holds [] { args:=args }=true:=(pre_splitW hpre).2
 obtain ⟨d,r,rfl,h1,h2⟩:=hasAllW_cons hsh
 obtain rfl:=hasAllW_nil h2
 obtain ⟨xs,rfl,h3⟩:=hasW_list h1
 obtain ⟨ns,rfl⟩:=items_int h3
 have hlen:ns.length ≤ n:=by
  unfold OpenLaw.pre at hc
  have h4:(WTm.not (.lt (.lit (.int (n:Int))) (.len (.arg 0)))).holds [] { args:=[.list (ns.map .int)] }=true:=by
   have h4:=(holds_andW hc).1
   rw [hn] at h4
   exact h4
  have h5:=condW_of h4 (w_not (w_lt w_lit (w_len_list (w_arg rfl))))
  rw [List.length_map] at h5
  refine Nat.le_of_not_lt fun q=>?_
  have q':(n:Int) < ((ns.length:Nat):Int):=by omega
  first
   | (rw [decide_eq_true q'] at h5;exact absurd h5 (by decide))
   | (simp at h5;omega)
 cases hwl with
 | cons w1 w2 =>
  cases w2
  cases w1 with
  | list ho hall=>exact ⟨_,_,ns,rfl,rfl,ho,zeR ns _ hall,hlen⟩
theorem ziO (l:OpenLaw) (args:List WData):l.row.toRowW.claim.post args (.bool true) args=true :=
 postW_of (r:=l.row.toRowW) (X:=(true == true))
  (show WShape.has [] (.bool true) .bool=true by first | rfl | decide | simp [WShape.has,WShape.arms,WShape.armsAll])
  (show (WTm.eq .res (.lit (.bool true))).value [] { args:=args,res:=some (.bool true),after:=args }=some (.bool (true == true)) from w_eq_bool (w_res rfl) w_lit) rfl
theorem zgZ {l:OpenLaw} {n:Nat} {q:Program} {loose:List Str} {XP:(Str→Option Value)→Heap→Prop} {YP:World→Heap→Prop} {d:DefRec}
  (hn:l.most=some n) (hdf:d.params.defaults=[])
  (call:∀ (w:World) (s₀ s₁:Shared) (mg mb:Str→Option Value) (fa:Addr) (o:Obj) (pm cd doc:Value) (a:Addr) (vs:List Value) (ns:List Int),
   Ground q loose [] XP w s₀ mg mb s₁.heap→YP w s₁.heap →
   s₁.heap.get? fa=some o→o.data = .func (docDef d.name d.params d.body d.scope pm cd doc)→s₁.heap.CodeRec cd d.name→mg d.name=some (.ref fa) →
   s₁.heap.get? a=some { cls := .type "list",data := .seq vs.toArray }→IntsAre vs ns→ns.length ≤ n→s₁.gens = #[] →
   codeAny (model l.prog w) callerA (.call (.ref fa) ⟨[.ref a],[]⟩) (fun r s'=>r = .ok (.ret (.bool true))∧OldK s₁.heap s'.heap∧s'.os=s₁.os∧AllBare s'.gens) s₁) :
  WalkO q loose XP YP l.row.toRowW d [] (fun f vs=>PySem.call f vs):=by
 intro w s₀ s₁ mg mb G Y fa o pm cd doc dV kV ho hd hcd hD hmg hg args vals as hpre hlay hrd hwl hlo
 obtain rfl:dV = .none:=Dflts.none hD hdf
 obtain rfl:kV = .none:=Dflts.noKw hD
 obtain ⟨a,vs,ns,rfl,rfl,hobj,hints,hlen⟩:=ziz hn hpre hwl
 refine enter_call (codeAny_mono (call w s₀ s₁ mg mb fa o pm cd doc a vs ns G Y ho (fd_plain hd) hcd hmg hobj hints hlen hg) fun r s' hq=>?_)
 obtain ⟨rfl,h2,h3,h4⟩:=hq
 exact ⟨.inl ⟨.bool true, .bool true,[],rfl,fun _=>rfl, .bool true,ziO l _,fun _=>⟨List.Pairwise.nil,fun _ hm=>(nomatch hm)⟩⟩,h2,h3,h4⟩
section
variable {prog:Program} {w:World} {A:Around} {E:Value→Shared→Prop} {s:Shared} {K:Frag}
def ledger (h:Heap) (L d:Addr):List (Addr × Obj):=(List.range h.objs.size).filterMap fun a=>if a=L∨a=d then none else (h.get? a).map fun o=>(a,o)
end
end Att
namespace L2
open PySem PySem.Spec PyProof.Rows
theorem zgf:∀ {vs:List Value} {ns:List Int},IntsAre vs ns→Vals (ns.map V.int) vs
 | _,_, .nil => .nil
 | _,_, .cons n t h => .cons ⟨t,rfl⟩ (zgf h)
def Only (H:Hp):Prop:=∀ b,H b=none∨∃ o xs,H b=some (.frz o (.lst xs))
theorem zkb {P:Program} {w:World} {K:PySem.W.Frag} {mg mb:Str→Option Value} {CX:CXT} {k:Nat} {fa a:Addr} {fd:FuncData} {x:Str} {sp:Sp} {s₁:Shared} {vs:List Value} {ns:List Int}
  (KX:K.In s₁.heap) (hns:s₁.heap.Ns mainGlobals mg) (hb:s₁.heap.Ns builtinsNs mb) (hbb:∀ x:Str,x ≠ "__name__"→mb x=bootBuiltins x) (hlim:s₁.heap.NoLimit) (hg:s₁.gens = #[])
  (ha:s₁.heap.get? a=some { cls := .type "list",data := .seq vs.toArray }) (hi:IntsAre vs ns) (hl:ns.length ≤ sizeLine) (hr:Room k callerA)
  (F:∀ base:Heap,K.In base→base.Ns mainGlobals mg→FnOk P w K mg base CX k fa fd [x] sp) (hbind:∀ (s:Shared) (u:Value),BindsTo s fd ⟨[u],[]⟩ [(x,u)])
  (hsp:∀ H:Hp,Only H→SqL K H a (ns.map V.int)→sp [.ref a] H (fun v _=>v = .bl true) fun _ _ _=>False)
  (hCX:∀ H e s',CX [] H s₁ (fun _ _ _=>False) e s'→False) :
  codeAny (model P w) callerA (.call (.ref fa) ⟨[.ref a],[]⟩) (fun r s'=>r = .ok (.ret (.bool true))∧OldK s₁.heap s'.heap∧s'.os=s₁.os∧AllBare s'.gens) s₁:=by
 have rv:=zgf hi
 have lenV:=hi.length
 have core:∀ H:Hp,Only H→SqL K H a (ns.map V.int)→HOk P w H s₁.heap→(∀ b,H b ≠ none→b=a)→(H a ≠ none→K.lookup a=none) →
   codeAny (model P w) callerA (.call (.ref fa) ⟨[.ref a],[]⟩) (fun r s'=>r = .ok (.ret (.bool true))∧OldK s₁.heap s'.heap∧s'.os=s₁.os∧AllBare s'.gens) s₁:=by
  intro H hO hS hok hA hK
  have base_of:∀ {b:Addr} {o:Obj},s₁.heap.get? b=some o→H b=none→(hidT s₁.heap H).get? b=some o:=fun e n=>zjS e n
  have noA:∀ {b:Addr} {o:Obj} {es:Array DictEntry} {ep:Nat},s₁.heap.get? b=some o→o.data = .dict es ep→H b=none:=fun {b o es ep} e d=>by
   cases q:H b with
   | none=>rfl
   | some u =>
    have e':b=a:=hA b (by rw [q];simp)
    subst e'
    rw [ha] at e;cases e
    have d':Data.seq vs.toArray _=Data.dict es ep:=d
    cases d'
  have nsK:∀ {b:Addr} {m:Str→Option Value},s₁.heap.Ns b m→(hidT s₁.heap H).Ns b m:=fun {b m} ⟨o,es,ep,e,d,r⟩=>⟨o,es,ep,base_of e (noA e d),d,r⟩
  have hKb:K.In (hidT s₁.heap H):=fun b o e=>base_of (KX b o e) (by
   cases q:H b with
   | none=>rfl
   | some u =>
    have e':b=a:=hA b (by rw [q];simp)
    subst e'
    rw [hK (by rw [q];simp)] at e;cases e)
  have hM:Mod K mg (hidT s₁.heap H):=⟨hKb,nsK hns,⟨mb,nsK hb,hbb⟩,let ⟨mc,h1,h2⟩:=hlim; ⟨mc,nsK h1,h2⟩⟩
  have e0:Env0 P w K mg (hidT s₁.heap H) callerA [] s₁ H:=⟨rfl,hM,fun b o e=>zkV e,Nat.le_of_eq (ziT _ _),trivial,fun b hb=>absurd (show b ∈ ([] : List Addr) from hb) (by simp),hok, .of_eq hg⟩
  refine codeAny_mono ((F _ hKb (nsK hns)).run callerA [] s₁ H ⟨[.ref a],[]⟩ [.ref a] [.ref a] _ _ hr e0 (hbind s₁ (.ref a)) (.cons rfl .nil) (hsp H hO hS)) fun r s' h=>?_
  cases r with
  | error e=>exact (hCX H e s' h).elim
  | ok fl =>
   cases fl with
   | next=>exact False.elim h
   | brk=>exact False.elim h
   | cont=>exact False.elim h
   | ret u =>
    obtain ⟨v,H',os,bare,un,hok',r',q⟩:=h
    have q':v = .bl true:=q
    subst q'
    obtain rfl:u=Value.bool true:=r'
    refine ⟨rfl,OldK.of_keep fun b o e=>?_,os,bare⟩
    cases q:H b with
    | none=>exact un.keep b o e q (by intro z;exact absurd (show b ∈ ([] : List Addr) from z) (by simp)) (by simp)
    | some u =>
     rcases hO b with z | ⟨ob,xs,z⟩
     ·rw [q] at z;cases z
     ·have z2:=un.frzs b ob _ z
      obtain ⟨e1,_⟩:=hok b _ z
      obtain ⟨e2,_⟩:=hok' b _ z2
      rw [e] at e1;cases e1
      exact e2
 cases hk:K.lookup a with
 | some o =>
  have e:=KX a o hk
  rw [ha] at e
  cases e
  refine core (fun _=>none) (fun _ => .inl rfl) (.inr ⟨_,vs.toArray,_,hk,rfl,rfl,rfl,by rw [List.size_toArray,lenV];exact hl,by simpa using rv⟩) (fun b u z=>by have z':(none:Option HO)=some u:=z;cases z') (fun b z=>absurd rfl z) fun z=>absurd rfl z
 | none =>
  refine core (fun b=>if b=a then some (.frz { cls := .type "list",data := .seq vs.toArray } (.lst (ns.map V.int))) else none) (fun b=>?_) (.inl (.inr ⟨{ cls := .type "list",data := .seq vs.toArray },if_pos rfl⟩)) (fun b u z=>?_) (fun b z=>?_) fun _=>hk
  ·by_cases hb:b=a
   ·exact .inr ⟨_,_,if_pos hb⟩
   ·exact .inl (if_neg hb)
  ·by_cases hb:b=a
   ·have z':=(if_pos hb).symm.trans z
    cases z'
    subst hb
    exact ⟨ha,by rw [List.length_map];exact hl,vs,_,rv,ha⟩
   ·have z':=(if_neg hb).symm.trans z
    cases z'
  ·by_cases hb:b=a
   ·exact hb
   ·exact absurd (if_neg hb) z
end L2
namespace L2
open PySem PySem.Spec PyProof.Rows
theorem zln {l:PySem.W.OpenLaw} {n k:Nat} {q:Program} {loose:List Str} {XP:(Str→Option Value)→Heap→Prop} {YP:World→Heap→Prop} {d:DefRec} {K:Params→PySem.W.Frag} {CX:World→CXT} {sp:World→Sp} {x:Str}
  (hn:l.most=some n) (hn2:n ≤ sizeLine) (hdf:d.params.defaults=[]) (hr:Room k callerA)
  (hY:∀ (w:World) (h:Heap),YP w h→(K w.params).In h)
  (F:∀ (w:World) (mg:Str→Option Value) (fa:Addr) (h:Heap),(K w.params).In h→h.Ns mainGlobals mg→mg d.name=some (.ref fa) →
   ∃ fd:FuncData,(∀ (s:Shared) (u:Value),BindsTo s fd ⟨[u],[]⟩ [(x,u)]) ∧
    ∀ base:Heap,(K w.params).In base→base.Ns mainGlobals mg→FnOk l.prog w (K w.params) mg base (CX w) k fa fd [x] (sp w))
  (hsp:∀ (w:World) (H:Hp) (a:Addr) (ns:List Int),ns.length ≤ n→Only H→SqL (K w.params) H a (ns.map V.int)→sp w [.ref a] H (fun v _=>v = .bl true) fun _ _ _=>False)
  (hCX:∀ (w:World) (H:Hp) (s:Shared) (e:Value) (s':Shared),CX w [] H s (fun _ _ _=>False) e s'→False) :
  PySem.W.WalkO q loose XP YP l.row.toRowW d [] (fun f vs=>PySem.call f vs):=by
 refine Att.zgZ hn hdf fun w s₀ s₁ mg mb fa o pm cd doc a vs ns G Y ho hd hcd hmg hobj hints hlen hg=>?_
 have KX:=hY w _ Y
 obtain ⟨fd,hb,hF⟩:=F w mg fa _ KX G.T.g hmg
 exact zkb KX G.T.g G.T.b G.T.builtins G.T.nolimit hg hobj hints (Nat.le_trans hlen hn2) hr hF hb (fun H hO hS=>hsp w H a ns hlen hO hS) fun H e s'=>hCX w H s₁ e s'
end L2
namespace L2
open PySem PySem.Spec PyProof.Rows
def inClass (s:Stmt) (j:Nat):Stmt:=match s with
 | .ClassDef _ _ _ body _ _ _ _ _ _ _=>body.getD j (.Pass ⟨0,0,0,0⟩)
 | _ => .Pass ⟨0,0,0,0⟩
def zav (s:Stmt):Arguments:=match s with
 | .FunctionDef _ a _ _ _ _ _ _ _ _=>a
 | _=>{ posonlyargs:=[],args:=[],vararg:=none,kwonlyargs:=[],kw_defaults:=[],kwarg:=none,defaults:=[] }
def zaj (s:Stmt):List Stmt:=match s with
 | .FunctionDef _ _ b _ _ _ _ _ _ _=>b
 | _=>[]
def zab (s:Stmt):Scope:=match s with
 | .FunctionDef _ _ _ _ _ _ sc _ _ _=>sc
 | _=>{ kind := .function,names:=[],isGenerator:=false,isCoroutine:=false }
abbrev CX0:CXT:=fun _ _ _ _ _ _=>False
abbrev E0:XK:=fun _ _ _=>False
theorem znd {X:Cx}:Passes CX0 X E0:=fun _ _ _ _ _ _ _ h=>h.elim
structure Fun (K:PySem.W.Frag) (x qual:Str) (st:Stmt) (f:Addr) (fd:FuncData):Prop where
 ex:∃ (oc:Value) (od:Option Addr) (kV doc pm:Value) (an:Option Addr) (cdv ct:Value) (osl:Array (Option Value)),
  fd=PySem.W.fnOf x qual (zav st) (zaj st) (zab st) .none kV doc pm an cdv ct∧K.lookup f=some ⟨oc,od, .func fd,osl⟩∧PySem.W.codeIn K cdv qual=true
 kp:PySem.W.keepIn K (.ref f)=true
section
variable {P:Program} {w:World} {K:PySem.W.Frag} {mg:Str→Option Value} {base:Heap}
theorem Fun.ok {x qual:Str} {st:Stmt} {f:Addr} {fd:FuncData} {N ps:List Str} {k:Nat} {sp:Sp} (F:Fun K x qual st f fd) (S:zat N ps (zab st)) (len:∀ vs H Q E,sp vs H Q E→vs.length=ps.length)
  (hbody:∀ (cdv:Value) (A:Around) (outer:List Env) (s:Shared) (H:Hp) (vs:List V) (Q:VK) (E:XK),Room k (A.deeper (envOfC qual (zab st) s.heap.objs.size f cdv))→sp vs H Q E →
   ∃ t,PSs (cxOf CX0 P w K mg base N qual (zab st) f cdv A outer s H E).nox (zaj st) t∧t { nx:=fun _ H'=>Q .non H',rt:=Q } (start N vs) H):FnOk P w K mg base CX0 (k + 1) f fd ps sp:=by
 obtain ⟨oc,od,kV,doc,pm,an,cdv,ct,osl,rfl,lk,hcd⟩:=F.ex
 refine zjX lk hcd S len fun A outer s H vs Q E hr hsp=>?_
 obtain ⟨t,h,q⟩:=hbody cdv A outer s H vs Q E hr hsp
 exact ⟨t,h.nox,q⟩
theorem Fun.binds {x qual:Str} {st:Stmt} {f:Addr} {fd:FuncData} {ps:List Str} (F:Fun K x qual st f fd)
  (h:∀ (kV doc pm:Value) (an:Option Addr) (cdv ct:Value) (us:List Value),us.length=ps.length→bindArgs (PySem.W.fnOf x qual (zav st) (zaj st) (zab st) .none kV doc pm an cdv ct) ⟨us,[]⟩ = pure (ps.zip us)):Binds K fd ps []:=by
 obtain ⟨oc,od,kV,doc,pm,an,cdv,ct,osl,rfl,lk,hcd⟩:=F.ex
 exact .all (h kV doc pm an cdv ct)
theorem zeA {x qual:Str} {st:Stmt} {f:Addr} {oc:Value} {od an:Option Addr} {osl:Array (Option Value)} {kV doc pm cdv ct:Value} (l:K.lookup f=some ⟨oc,od, .func (PySem.W.fnOf x qual (zav st) (zaj st) (zab st) .none kV doc pm an cdv ct),osl⟩)
  (c:PySem.W.codeIn K cdv qual=true) (k:PySem.W.keepIn K (.ref f)=true):Fun K x qual st f (PySem.W.fnOf x qual (zav st) (zaj st) (zab st) .none kV doc pm an cdv ct):=⟨⟨oc,od,kV,doc,pm,an,cdv,ct,osl,rfl,l,c⟩,k⟩
end
section
variable {X:Cx}
end
def Same (H H':Hp):Prop:=∀ b o,H b=some o→H' b=some o
theorem Same.refl (H:Hp):Same H H:=fun _ _ h=>h
theorem Same.trans {H H1 H2:Hp} (a:Same H H1) (b:Same H1 H2):Same H H2:=fun c o h=>b c o (a c o h)
theorem Same.free {H H':Hp} (e:Same H H') {l:Addr} (h:H' l=Option.none):H l=Option.none:=by
 cases q:H l with
 | none=>rfl
 | some o =>
  rw [e l o q] at h
  cases h
theorem Same.seq {K:PySem.W.Frag} {H H':Hp} {a:Addr} {xs:List V} (e:Same H H') (h:SqL K H a xs):SqL K H' a xs:=by
 rcases h with (h | ⟨o,h⟩) | h
 ·exact .inl (.inl (e _ _ h))
 ·exact .inl (.inr ⟨o,e _ _ h⟩)
 ·exact .inr h
section
variable {κ:Type} [DecidableEq κ]
end
end L2
namespace L2
open PySem
theorem zg6 (env:Env):∀ (names:List (Str × NameKind)) (cs:List (Str × Addr)),(∀ y ∈ names,y.2 = .free→∃ c,env.cells.lookup y.1=some c) →
  ∃ cl,(forIn names cs (fun (x:Str × NameKind) (cs:List (Str × Addr))=>(match x with | (name,kind)=>if (kind == NameKind.free)=true then (do let c ← cellOf env name;pure (ForInStep.yield ((name,c) :: cs))) else pure (ForInStep.yield cs))):Sem (List (Str × Addr)))=pure cl ∧
   (∀ x c,cl.lookup x=some c→cs.lookup x=some c∨env.cells.lookup x=some c)∧(∀ y ∈ names,y.2 = .free→∃ c,cl.lookup y.1=some c)∧(∀ x c,cs.lookup x=some c→∃ c',cl.lookup x=some c')
 | [],cs,_=>⟨cs,rfl,fun _ _ h => .inl h,fun _ h=>(nomatch h),fun _ c h=>⟨c,h⟩⟩
 | (n,k) :: r,cs,h=>by
  by_cases hk:k = .free
  ·subst hk
   obtain ⟨c,hc⟩:=h (n, .free) (List.mem_cons_self ..) rfl
   obtain ⟨cl,e,h1,h2,h3⟩:=zg6 env r ((n,c) :: cs) fun y hy=>h y (List.mem_cons_of_mem _ hy)
   refine ⟨cl,?_,fun x d hd=>?_,fun y hy hf=>?_,fun x d hd=>?_⟩
   ·rw [List.forIn_cons]
    simp only [beq_self_eq_true,if_true,cellOf,hc,pure_bind]
    exact e
   ·rcases h1 x d hd with q | q
    ·rw [List.lookup_cons] at q
     split at q
     ·rename_i hx
      have hx':x=n:=by simpa using hx
      subst hx'
      exact .inr (hc.trans q)
     ·exact .inl q
    ·exact .inr q
   ·rcases List.mem_cons.mp hy with e' | e'
    ·subst e'
     exact h3 n c (by simp)
    ·exact h2 y e' hf
   ·by_cases hx:x=n
    ·subst hx
     exact h3 x c (by simp)
    ·have hb:(x == n)=false:=by simpa using hx
     exact h3 x d (by rw [List.lookup_cons,hb];exact hd)
  ·obtain ⟨cl,e,h1,h2,h3⟩:=zg6 env r cs fun y hy=>h y (List.mem_cons_of_mem _ hy)
   have hb:(k == NameKind.free)=false:=by simpa using hk
   refine ⟨cl,?_,h1,fun y hy hf=>?_,h3⟩
   ·rw [List.forIn_cons]
    simp only [hb,Bool.false_eq_true,if_false,pure_bind]
    exact e
   ·rcases List.mem_cons.mp hy with e' | e'
    ·subst e';exact absurd hf hk
    ·exact h2 y e' hf
theorem zfv {scope:Scope} {env:Env} (h:∀ y ∈ scope.names,y.2 = .free→∃ c,env.cells.lookup y.1=some c) :
  ∃ cl,closureFor scope env=pure cl∧(∀ x c,cl.lookup x=some c→env.cells.lookup x=some c)∧∀ y ∈ scope.names,y.2 = .free→∃ c,cl.lookup y.1=some c:=by
 obtain ⟨cl,e,h1,h2,_⟩:=zg6 env scope.names [] h
 refine ⟨cl,?_,fun x c hc=>(h1 x c hc).resolve_left (by simp),h2⟩
 unfold closureFor
 refine Eq.trans (congrArg (fun m=>m >>= fun cs=>pure cs) e) ?_
 rfl
section
variable {prog:Program} {w:World} {A:Around} {E:Value→Shared→Prop} {s:Shared}
end
end L2
namespace L2
open PySem PySem.Spec PyProof.Rows
section
variable {prog:Program} {w:World} {A:Around} {R:Result→Shared→Prop} {s:Shared}
theorem zgG {elt target iter:Expr} {ifs:List Expr} {scope:Scope} {pos:Pos} {it acc:Value} {env:Env} (I:Nat→Shared→Prop)
  (turn:∀ n s,I n s→wpAny (model prog w) A (pyNext it) (fun r s₁=>match r with
   | none=>R (.ok .next) s₁
   | some v=>wpAny (model prog w) A (letOwnedTupleGo target it v) (fun _ s₁'=>wpAny (model prog w) A (assign target env v) (fun _ s₂ =>
     wpAny (model prog w) A (forIn ifs true fun c r=>if r=true then do let ok ← isTrue c env (eval c env);pure (ForInStep.yield ok) else pure (ForInStep.yield r)) (fun ok s₃ =>
      if ok=true then wpAny (model prog w) A (eval elt env) (fun x s₄ =>
       wpAny (model prog w) A (call (.builtin "list.append") [acc,x]) (fun _ s₅=>∃ m,m < n∧I m s₅) (fun _ _=>False) s₄) (fun _ _=>False) s₃
      else ∃ m,m < n∧I m s₃) (fun _ _=>False) s₂) (fun _ _=>False) s₁') (fun _ _=>False) s₁) (fun _ _=>False) s)
  (n:Nat) (h:I n s) :
  codeAny (model prog w) A (.compLoop (.ListComp elt [⟨target,iter,ifs,0⟩] scope pos) 0 it acc env) R s:=by
 refine codeAny_loop rfl I (fun n s hI=>?_) n h
 show wpAny _ A ((compTurn (.ListComp elt [⟨target,iter,ifs,0⟩] scope pos) 0 it acc env).onRaise (fun x=>do noteFrame x env;theTreesLotGoes x)) _ _ s
 refine wpAny_noted ?_
 rw [compTurn_list]
 refine wpAny_bind (wpAny_standAt (wpAny_bind (wpAny_mono (turn n s hI) (fun r s₁ h₁=>?_) fun _ _ h'=>h'.elim)))
 cases r with
 | none=>exact wpAny_pure h₁
 | some v =>
  refine wpAny_bind (wpAny_mono h₁ (fun _ s₁' h₁'=>?_) fun _ _ h'=>h'.elim)
  refine wpAny_bind (wpAny_mono h₁' (fun _ s₂ h₂=>wpAny_bind (wpAny_mono h₂ (fun ok s₃ h₃=>?_) fun _ _ h'=>h'.elim)) fun _ _ h'=>h'.elim)
  cases ok with
  | false=>exact wpAny_pure ⟨rfl,h₃⟩
  | true =>
   exact wpAny_bind (wpAny_bind (wpAny_mono h₃ (fun x s₄ h₄=>wpAny_bind (wpAny_mono h₄ (fun _ s₅ h₅=>wpAny_pure (wpAny_pure ⟨rfl,h₅⟩)) fun _ _ h'=>h'.elim)) fun _ _ h'=>h'.elim))
end
def PIf (X:Cx) (ifs:List Expr) (t:TT):Prop :=
 ∀ (pins:List (Addr × Obj)) (s:Shared) (σ:St) (H:Hp) (Q:Bool→Hp→Prop),Inv X pins σ H s→t σ H Q →
  wpAny (model X.prog X.w) X.A (forIn ifs true fun c r=>if r=true then do let ok ← isTrue c X.env (eval c X.env);pure (ForInStep.yield ok) else pure (ForInStep.yield r)) (TP X pins σ Q) X.xe s
def tYes:TT:=fun _ H Q=>Q true H
theorem zlg {X:Cx}:PIf X [] tYes:=fun _ _ _ H _ I h=>wpAny_tests_nil ⟨H,I,h⟩
theorem zkY {X:Cx} {c:Expr} {t:TT} (h:PT X c t):PIf X [c] t:=fun pins s σ H Q I q=>wpAny_tests_one (h pins s σ H Q I q)
def lcCx (X:Cx) (scope:Scope) (ls:List Str) (js:List Nat) (cl:List (Str × Addr)) (C:Addr) (s:Shared) (H:Hp) (fp:List Addr):Cx :=
 { X with N:=ls ++ js.map (fun j=>X.N.getD j Str.empty),s₀:=s,H₀:=H,env:=compEnvC scope cl C X.env,outer:=X.stack,ex:=fp,fn:=fun _=>false,xe:=fun _ _=>False }
def lcSt (ls:List Str) (js:List Nat) (σ:St):St:=ls.map (fun _=>none) ++ js.map (fun j=>(σ[j]?).join)
def gk (env:Env) (n:Str) (k:NameKind):NameKind:=if (k == NameKind.free && env.scope.kind == .function && env.kindOf n == some .cell)=true then .cell else k
theorem zhk (env:Env) (names:List (Str × NameKind)):(names.map fun (n,k)=>if (k == NameKind.free && env.scope.kind == .function && env.kindOf n == some .cell) then (n,NameKind.cell) else (n,k))=names.map fun p=>(p.1,gk env p.1 p.2):=by
 refine List.map_congr_left fun p _=>?_
 obtain ⟨n,k⟩:=p
 show (if (k == NameKind.free && env.scope.kind == .function && env.kindOf n == some .cell)=true then (n,NameKind.cell) else (n,k))=(n,gk env n k)
 unfold gk
 split <;> rfl
theorem zdT (env:Env) (x:Str):∀ names:List (Str × NameKind),(names.map fun p=>(p.1,gk env p.1 p.2)).lookup x=(names.lookup x).map (gk env x)
 | []=>rfl
 | (n,k) :: r=>by
  rw [List.map_cons]
  cases hx:x == n with
  | true =>
   have e:x=n:=by simpa using hx
   subst e
   rw [List.lookup_cons,List.lookup_cons]
   simp
  | false =>
   rw [List.lookup_cons,List.lookup_cons]
   simp only [hx]
   exact zdT env x r
theorem lookup_mem {x:Str} {k:NameKind}:∀ {names:List (Str × NameKind)},names.lookup x=some k→(x,k) ∈ names
 | [],h=>by simp at h
 | (n,k') :: r,h=>by
  rw [List.lookup_cons] at h
  cases hx:x == n with
  | true =>
   have e:x=n:=by simpa using hx
   subst e
   simp only [beq_self_eq_true] at h
   cases h
   exact List.mem_cons_self ..
  | false =>
   simp only [hx] at h
   exact List.mem_cons_of_mem _ (lookup_mem h)
theorem zbf {env:Env} {names:List (Str × NameKind)} {x:Str} (h:names.lookup x=some .free) :
  (names.map fun (n,k)=>if (k == NameKind.free && env.scope.kind == .function && env.kindOf n == some .cell) then (n,NameKind.cell) else (n,k)).lookup x=some .cell ∨
  (names.map fun (n,k)=>if (k == NameKind.free && env.scope.kind == .function && env.kindOf n == some .cell) then (n,NameKind.cell) else (n,k)).lookup x=some .free:=by
 rw [zhk,zdT,h]
 show some (gk env x .free)=some .cell∨some (gk env x .free)=some .free
 unfold gk
 split
 ·exact .inl rfl
 ·exact .inr rfl
theorem zcN {env:Env} {names:List (Str × NameKind)} {x:Str} (hc:∀ y ∈ names,y.2 ≠ .cell)
  (h:(names.map fun (n,k)=>if (k == NameKind.free && env.scope.kind == .function && env.kindOf n == some .cell) then (n,NameKind.cell) else (n,k)).lookup x=some .cell ∨
   (names.map fun (n,k)=>if (k == NameKind.free && env.scope.kind == .function && env.kindOf n == some .cell) then (n,NameKind.cell) else (n,k)).lookup x=some .free):(x,NameKind.free) ∈ names:=by
 rw [zhk,zdT] at h
 cases e:names.lookup x with
 | none=>rw [e] at h;rcases h with h | h <;> cases h
 | some k =>
  have hm:=lookup_mem e
  by_cases hk:k = .free
  ·rw [hk] at hm;exact hm
  ·rw [e] at h
   have hg:gk env x k=k:=by
    unfold gk
    have hb:(k == NameKind.free)=false:=by simpa using hk
    rw [hb]
    rfl
   have h':gk env x k = .cell∨gk env x k = .free:=h.imp (fun z=>Option.some.inj z) fun z=>Option.some.inj z
   rw [hg] at h'
   rcases h' with z | z
   ·exact absurd z (hc _ hm)
   ·exact absurd z hk
structure LcOk (X:Cx) (scope:Scope) (ls:List Str) (js:List Nat):Prop where
 kind:scope.kind = .function
 cell:∀ y ∈ scope.names,y.2 ≠ .cell
 names:∀ y ∈ scope.names,y.2 = .local→scope.names.lookup y.1=some .local
 free:∀ y ∈ scope.names,y.2 = .free→X.env.kindOf y.1=some .cell∨X.env.kindOf y.1=some .free
 cap:∀ j ∈ js,∃ x,X.N[j]? = some x∧scope.names.lookup x=some .free
section
variable {X:Cx} {pins:List (Addr × Obj)} {σ:St} {H:Hp} {s:Shared}
theorem zlW {scope:Scope} {ls:List Str} {js:List Nat} {cl:List (Str × Addr)} {C:Addr} {fp:List Addr} (L:LcOk X scope ls js) (I:Inv X pins σ H s)
  (h1:∀ x c,cl.lookup x=some c→X.env.cells.lookup x=some c) (h2:∀ y ∈ scope.names,y.2 = .free→∃ c,cl.lookup y.1=some c)
  {s':Shared} {H':Hp} (hC:s'.heap.objs.size ≤ C) (bs:∀ b o,X.base.get? b=some o→s'.heap.get? b=some o∧H' b=none) (bsz:X.base.objs.size ≤ s'.heap.objs.size)
  (funs:s'.heap.FunFrames X.base X.stack) (frf:∀ b ∈ frs X.stack,H' b=none)
  (exf:∀ b ∈ fp,b ≠ C∧∀ x c,X.env.cells.lookup x=some c→c ≠ b) (noex:∀ b o,X.base.get? b=some o→b ∉ fp) (exfs:∀ b ∈ fp,b ∉ frs X.stack) :
  (lcCx X scope ls js cl C s' H' fp).Ok where
 mod:=I.ok.mod
 kind:=L.kind
 glob:=I.ok.glob
 blt:=I.ok.blt
 above:=hC
 inj:=fun x y c a b=>I.ok.inj x y c (h1 x c a) (h1 y c b)
 has:=fun x hx=>h2 (x, .free) (zcN (env:=X.env) L.cell hx) rfl
 cab:=fun x c z=>by cases z
 hd:=I.ok.hd
 frames:=I.ok.frames
 stk := .inl rfl
 exf:=fun b hb=>⟨(exf b hb).1,fun x c e=>(exf b hb).2 x c (h1 x c e)⟩
 bs:=bs
 bsz:=bsz
 noex:=noex
 exfs:=exfs
 funs:=funs
 frf:=frf
theorem zjB {ls:List Str} {js:List Nat} {i:Nat} {v:V} (h:(lcSt ls js σ)[i]? = some (some v)):∃ k j,i=ls.length + k∧js[k]? = some j∧σ[j]? = some (some v):=by
 unfold lcSt at h
 by_cases hi:i < ls.length
 ·rw [List.getElem?_append_left (by simpa using hi),List.getElem?_map] at h
  cases e:ls[i]? with
  | none=>rw [e] at h;cases h
  | some y=>rw [e] at h;cases h
 ·rw [List.getElem?_append_right (by simpa using Nat.le_of_not_lt hi),List.getElem?_map,List.length_map] at h
  cases e:js[i - ls.length]? with
  | none=>rw [e] at h;cases h
  | some j =>
   rw [e] at h
   refine ⟨i - ls.length,j,by omega,e,?_⟩
   have h':(σ[j]?).join=some v:=Option.some.inj h
   cases q:σ[j]? with
   | none=>rw [q] at h';cases h'
   | some o =>
    rw [q] at h'
    exact congrArg some h'
def LcR (ls:List Str) (js:List Nat) (g:TG) (tc:TT) (te:TE) (σ:St) (Q:VK) (J:It) (H1:Hp):Prop:=∀ D,H1 D=none →
 ∃ W:Nat→Nat→St→Hp→Prop,(∃ m,W 0 m (lcSt ls js σ) (upd H1 D (.lst [])))∧∀ i m σ' H',W i m σ' H' →
  (J.stop i H'∧Q (.ref D) H')∨(J.go i H'∧∃ N:St→Hp→Prop,(∀ σ2 H2,N σ2 H2→∃ m',m' < m∧W (i + 1) m' σ2 H2) ∧
   ∀ x H2,J.yld i H' x H2→g x σ' H2 fun σ3 H3=>tc σ3 H3 fun c H4=>if c=true then te σ3 H4 fun y H5=>∃ ys,H5 D=some (.lst ys)∧ys.length < sizeLine∧N σ3 (upd H5 D (.lst (ys ++ [y]))) else N σ3 H4)
def tLC (ls:List Str) (js:List Nat) (wi:TI) (g:TG) (tc:TT) (te:TE):TE:=fun σ H Q=>wi σ H (LcR ls js g tc te σ Q)
theorem zoJ {elt tg iter:Expr} {ifs:List Expr} {scope:Scope} {pos:Pos} {ls:List Str} {js:List Nat} {wi:TI} {g:TG} {tc:TT} {te:TE} (hc:X.calm=true) (L:LcOk X scope ls js) (hi:PI X tg iter wi)
  (hb:∀ cl C s H fp,PG (lcCx X scope ls js cl C s H fp) tg g∧PIf (lcCx X scope ls js cl C s H fp) ifs tc∧PE (lcCx X scope ls js cl C s H fp) elt te)
  (hs:∀ x,foldedSetIterable iter X.env x=pure x:=by intro _;rfl):PE X (.ListComp elt [⟨tg,iter,ifs,0⟩] scope pos) (tLC ls js wi g tc te):=by
 intro pins s σ H Q I h
 obtain ⟨cl,hcl,hk1,hk2⟩:=zfv (scope:=scope) (env:=X.env) fun y hy hf=>I.ok.has y.1 (L.free y hy hf)
 rw [eval_ListComp]
 refine wpAny_comprehension_free (use:=none) rfl hs hcl L.kind L.names (thn (hi pins s σ H _ I h) fun v s1 h1=>thn h1 fun itv s2 h2=>?_)
 obtain ⟨it,fp,tn,J,H1,e,I2,T,st2,f2,h2⟩:=h2
 subst e
 refine wpAny_newObj_type (wpAny_newFunctionEnv L.cell (by intro y hy;simp at hy) (fun h₁ hns₁ hsb₁=>?_) L.kind)
 dsimp only at hns₁ hsb₁ ⊢
 generalize hH2:s2.heap.push { cls := .type "list",dict:=none,data := .seq ([] : List Value).toArray }=G2 at hns₁ hsb₁ ⊢
 have hCz:G2.objs.size=s2.heap.objs.size + 1:=by rw [← hH2,Heap.size_push]
 have hD0:H1 s2.heap.objs.size=none:=I2.hok.fresh (Nat.le_refl _)
 have hC0:H1 G2.objs.size=none:=I2.hok.fresh (by omega)
 have hDC:s2.heap.objs.size ≠ G2.objs.size:=by omega
 have hG2D:G2.get? s2.heap.objs.size=some { cls := .type "list",dict:=none,data := .seq ([] : List Value).toArray }:=by rw [← hH2];exact Heap.get?_push_size _ rfl
 have keepG:∀ b o,s2.heap.get? b=some o→G2.get? b=some o:=fun b o e=>by rw [← hH2];exact Heap.get?_push_of_some _ e
 have I3:Inv X pins σ (upd H1 s2.heap.objs.size (.lst [])) { s2 with heap:=G2,toks:=s2.toks } :=
  I2.laid (t':=s2.toks) keepG (Nat.le_refl _) (show zco X.prog X.w _ G2 _ (.lst []) from ⟨by simp,[],0, .nil,hG2D⟩)
 have keep1:∀ b o,G2.get? b=some o→h₁.get? b=some o:=fun b o e=>(hsb₁.2 b (Nat.ne_of_lt (Heap.lt_size e))).trans (Heap.get?_push_of_some _ e)
 have I4:Inv X pins σ (upd H1 s2.heap.objs.size (.lst [])) { s2 with heap:=h₁,toks:=s2.toks + 0 }:=I3.kept (h':=h₁) (t':=s2.toks + 0) keep1
 generalize hT:(H1,(⟨tg,iter,ifs,0⟩ : Comprehension))=junk
 clear hT junk
 have fpsz:∀ b ∈ fp,b < s2.heap.objs.size:=fun b hb=>by
  obtain ⟨o,e,_⟩:=T.obj 0 _ st2 b hb
  exact Heap.lt_size e
 have fpD:s2.heap.objs.size ∉ fp:=fun z=>Nat.lt_irrefl _ (fpsz _ z)
 have fpC:∀ b ∈ fp,b ≠ G2.objs.size:=fun b hb=>Nat.ne_of_lt (by rw [hCz];exact Nat.lt_succ_of_lt (fpsz b hb))
 have okC:(lcCx X scope ls js cl G2.objs.size { s2 with heap:=G2 } (upd H1 s2.heap.objs.size (.lst [])) fp).Ok:=by
  refine zlW L I3 hk1 hk2 (Nat.le_refl _) I3.bs (Nat.le_trans I3.ok.bsz I3.sz) I3.stack I3.zgT (fun b hb=>⟨fpC b hb,(f2 b hb).2.2.2.2.1⟩) (fun b o e hb=>?_) (fun b hb z=>?_)
  ·rcases (f2 b hb).2.2.2.1 with q | q
   ·exact I2.ok.noex b o e q
   ·exact absurd (Nat.lt_of_lt_of_le (Heap.lt_size (I2.ok.bs b o e).1) q) (Nat.lt_irrefl _)
  ·rcases List.mem_cons.mp (I3.zgD b z) with q | q
   ·exact (f2 b hb).2.1 q
   ·exact (f2 b hb).2.2.1 q
 have IC:Inv (lcCx X scope ls js cl G2.objs.size { s2 with heap:=G2 } (upd H1 s2.heap.objs.size (.lst [])) fp) [] (lcSt ls js σ) (upd H1 s2.heap.objs.size (.lst [])) { s2 with heap:=h₁,toks:=s2.toks + 0 }:=by
  refine ⟨okC,rfl,I4.bare,Un.kept keep1,⟨_,hns₁,fun i x v e1 e2 e3=>?_⟩,fun x c e=>I4.cell x c (hk1 x c e),?_,fun x c e=>I4.freeC x c (hk1 x c e),fun p hp=>?_,I4.hok,?_⟩
  ·obtain ⟨k,j,hi',hj,hσ⟩:=zjB e2
   obtain ⟨y,hy,hyf⟩:=L.cap j (List.mem_of_getElem? hj)
   have hxy:x=y:=by
    have e1':(ls ++ js.map (fun j=>X.N.getD j Str.empty))[i]? = some x:=e1
    rw [hi',List.getElem?_append_right (Nat.le_add_right ..),Nat.add_sub_cancel_left,List.getElem?_map,hj] at e1'
    have e1'':X.N.getD j Str.empty=x:=Option.some.inj e1'
    rw [← e1'',List.getD_eq_getElem?_getD,hy]
    rfl
   subst hxy
   have hkf:X.env.kindOf x=some .cell∨X.env.kindOf x=some .free:=by
    have hm:(x,NameKind.free) ∈ scope.names:=by
     have q:=zcN (env:=X.env) L.cell (zbf (env:=X.env) hyf)
     exact q
    exact L.free _ hm rfl
   obtain ⟨m,hn,hl⟩:=I4.loc
   obtain ⟨u,r,l⟩:=hl j x v hy hσ (hkf.elim (fun z => .inr (.inl z)) fun z => .inr (.inr z))
   refine ⟨u,r, .inr ⟨zbf (env:=X.env) hyf,?_⟩⟩
   rcases l with ⟨kl,_⟩ | ⟨_,c,hc',z⟩
   ·rcases hkf with q | q
    ·rw [q] at kl;cases kl
    ·rw [q] at kl;cases kl
   ·have hm:(x,NameKind.free) ∈ scope.names:=zcN (env:=X.env) L.cell (zbf (env:=X.env) hyf)
    obtain ⟨c',hc''⟩:=hk2 _ hm rfl
    have:=hk1 _ _ hc''
    rw [hc'] at this
    cases this
    exact ⟨c,hc'',z⟩
  ·show upd H1 s2.heap.objs.size (.lst []) G2.objs.size=none
   rw [zao (Ne.symm hDC)]
   exact hC0
  ·have hp':p ∈ X.pn:=by simpa [lcCx] using hp
   obtain ⟨e,n,ne,nf,d⟩:=I4.pin p (List.mem_append_left _ hp')
   obtain ⟨e3,_⟩:=I3.pin p (List.mem_append_left _ hp')
   refine ⟨e,n,?_,fun z=>?_,d⟩
   ·exact Nat.ne_of_lt (Heap.lt_size e3)
   ·rcases List.mem_cons.mp (I3.zgD p.1 z) with q | q
    ·exact ne q
    ·exact nf q
  ·simp [lcSt,lcCx]
 obtain ⟨hbG,hbI,hbE⟩:=hb cl G2.objs.size { s2 with heap:=G2 } (upd H1 s2.heap.objs.size (.lst [])) fp
 obtain ⟨W,⟨m0,w0⟩,turn⟩:=h2 s2.heap.objs.size hD0
 have st0:tn 0 h₁:=T.keep _ _ _ st2 fun b hb o e=>keep1 b o (keepG b o e)
 have frz:∀ {H':Hp},(∀ b ∈ fp,H' b=none)→∀ b ∈ fp,FpOk (lcCx X scope ls js cl G2.objs.size { s2 with heap:=G2 } (upd H1 s2.heap.objs.size (.lst [])) fp) [] H' b:=fun hn b hb=>by
  refine ⟨hn b hb,fpC b hb,fun z=>?_, .inl hb,fun x c e=>(f2 b hb).2.2.2.2.1 x c (hk1 x c e),fun p hp=>?_⟩
  ·rcases List.mem_cons.mp (I3.zgD b z) with q | q
   ·exact (f2 b hb).2.1 q
   ·exact (f2 b hb).2.2.1 q
  ·have hp':p ∈ X.pn:=by simpa [lcCx] using hp
   exact (f2 b hb).2.2.2.2.2 p (List.mem_append_left _ hp')
 have fr0:∀ b ∈ fp,(upd H1 s2.heap.objs.size (.lst [])) b=none:=fun b hb=>by
  rw [zao (show b ≠ s2.heap.objs.size from Nat.ne_of_lt (fpsz b hb))]
  exact (f2 b hb).1
 have loop:∀ s4:Shared,s4 = { s2 with heap:=h₁,toks:=s2.toks + 0 } →
   codeAny (model X.prog X.w) X.A (.compLoop (.ListComp elt [⟨tg,iter,ifs,0⟩] scope pos) 0 (.ref it) (.ref s2.heap.objs.size) (compEnvC scope cl G2.objs.size X.env))
    (compPost (model X.prog X.w) X.A X.xe none (EP X pins σ Q) (.ref s2.heap.objs.size) G2.objs.size) s4:=by
  rintro s4 rfl
  refine zgG (fun n s'=>∃ i σ' H',Inv (lcCx X scope ls js cl G2.objs.size { s2 with heap:=G2 } (upd H1 s2.heap.objs.size (.lst [])) fp) [] σ' H' s'∧tn i s'.heap∧(∀ b ∈ fp,H' b=none)∧W i n σ' H') ?_ m0 ⟨0,_,_,IC,st0,fr0,w0⟩
  rintro n s5 ⟨i,σ5,H5,I5,st5,fr5,w5⟩
  rcases turn i n σ5 H5 w5 with ⟨stop,qn⟩ | ⟨go,N,hN,step⟩
  ·refine thn (T.done (lcCx X scope ls js cl G2.objs.size { s2 with heap:=G2 } (upd H1 s2.heap.objs.size (.lst [])) fp) rfl rfl rfl hc i [] s5 σ5 H5 _ I5 (frz fr5) st5 stop) fun r s6 ⟨hr,I6⟩=>?_
   subst hr
   obtain ⟨m6,hn6,_⟩:=I6.loc
   refine ⟨m6,hn6,fun h' hsb=>⟨.ref s2.heap.objs.size,H5,?_,rfl,qn⟩⟩
   have un1:Un (frs X.stack) fp (upd H1 s2.heap.objs.size (.lst [])) H5 G2 s6.heap:=I6.base
   have un0:Un (frs X.stack) fp H1 (upd H1 s2.heap.objs.size (.lst [])) s2.heap G2:=Un.laid keepG (Nat.le_refl _) hD0
   have un:=un0.trans un1
   have neC:∀ b o,s2.heap.get? b=some o→b ≠ G2.objs.size:=fun b o e=>Nat.ne_of_lt (by rw [hCz];exact Nat.lt_succ_of_lt (Heap.lt_size e))
   have un':Un (frs X.stack) fp H1 H5 s2.heap h':=⟨fun b o e n a x=>(hsb.2 b (neC b o e)).trans (un.keep b o e n a x),fun b o e n a x=>by
    obtain ⟨sl,q⟩:=un.slot b o e n a x
    exact ⟨sl,(hsb.2 b (neC b o e)).trans q⟩,un.free,fun b o e x=>by
    obtain ⟨o',q⟩:=un.there b o e x
    exact ⟨o',(hsb.2 b (neC b o e)).trans q⟩,un.tups,un.frzs,un.tbls⟩
   have hok':HOk X.prog X.w H5 h':=fun b o e=>by
    refine (I6.hok b o e).stay (fun c u hc' q=>(hsb.2 c ?_).trans q) (fun _ q=>q) fun _ _ q=>q
    have hfree:H5 G2.objs.size=none:=I6.free
    rintro rfl
    rcases hc' with z | z
    ·subst z;rw [hfree] at e;cases e
    ·rw [hfree] at z;cases z
   refine I2.zlX (s':={ s6 with heap:=h' }) (ch:=fp) ?_ un' hok' I6.bare fun b hb=>⟨(f2 b hb).2.2.2.1,(f2 b hb).2.1,(f2 b hb).2.2.2.2.1,(f2 b hb).2.2.2.2.2⟩
   exact I6.os
  ·refine thn (T.item (lcCx X scope ls js cl G2.objs.size { s2 with heap:=G2 } (upd H1 s2.heap.objs.size (.lst [])) fp) rfl rfl rfl hc i [] s5 σ5 H5 _ I5 (frz fr5) st5 go) fun r s6 ⟨u,hr,h6⟩=>?_
   subst hr
   refine thn h6 fun _ s7 ⟨x,H7,I7,r7,y7,st7,fr7⟩=>?_
   have I7':=I7.pinned (frz fr7) (T.obj _ _ st7)
   refine thn (hbG _ s7 σ5 H7 x u _ I7' r7 (step x H7 y7)) fun _ s8 ⟨σ8,H8,I8,q8⟩=>?_
   refine thn (hbI _ s8 σ8 H8 _ I8 q8) fun ok s9 ⟨H9,I9,q9⟩=>?_
   have again:∀ {σa:St} {Ha:Hp} {sa:Shared},Inv (lcCx X scope ls js cl G2.objs.size { s2 with heap:=G2 } (upd H1 s2.heap.objs.size (.lst [])) fp) ([] ++ zgF fp s7.heap) σa Ha sa→N σa Ha →
     ∃ m,m < n∧∃ i σ' H',Inv (lcCx X scope ls js cl G2.objs.size { s2 with heap:=G2 } (upd H1 s2.heap.objs.size (.lst [])) fp) [] σ' H' sa∧tn i sa.heap∧(∀ b ∈ fp,H' b=none)∧W i m σ' H':=fun {σa Ha sa} Ia na=>by
    obtain ⟨m',hm,wa⟩:=hN σa Ha na
    refine ⟨m',hm,i + 1,σa,Ha,Ia.zen,T.keep _ _ _ st7 fun b hb o e=>(Ia.pin (b,o) (List.mem_append_right _ (List.mem_append_right _ (zc8 hb e)))).1,fun b hb=>?_,wa⟩
    obtain ⟨o,e,d⟩:=T.obj _ _ st7 b hb
    exact (Ia.pin (b,o) (List.mem_append_right _ (List.mem_append_right _ (zc8 hb e)))).2.1
   cases ok with
   | false=>exact again I9 q9
   | true =>
    refine thn (hbE _ s9 σ8 H9 _ I9 q9) fun y s10 ⟨z,H10,I10,r10,ys,hD,hlt,nn⟩=>?_
    obtain ⟨zz,its,k,r,hl,e⟩:=I10.lstM hD
    refine call_meets F.slot_list_append ⟨_,e,rfl⟩ F.entry_list_append (F.args_list_append_2 _ _) (PySem.list_append s2.heap.objs.size its.toArray k y (by rw [List.size_toArray];omega)) ⟨e,?_⟩
    refine again (I10.lset (its':=its ++ [y]) (t':=s10.toks) hD e ?_ (r.append (.cons r10 .nil)) ?_) nn
    ·simp
    ·simp;omega
 exact codeAny_compStart_list (loop _ rfl) (T.self _ 0 _ _ _ st0 (loop _ rfl))
end
end L2
namespace L2
open PySem PySem.Spec PyProof.Rows
section
variable {X:Cx}
theorem zky (hc:X.calm=true):zeh X (.builtin "sum") (fun xs H Q=>∃ (a:Addr) (ns:List Int),xs=[.ref a]∧SqL X.K H a (ns.map V.int)∧Q (.int ns.sum) H):=by
 intro pins s σ H xs us Q I r h
 obtain ⟨a,ns,rfl,hq,q⟩:=h
 obtain ⟨u,rfl,ru⟩:=vals1 r
 cases ru
 obtain ⟨its,rv,pl,hz⟩:=I.list hq
 have hi:IntsAre its ns:=intsAre_of rv
 obtain ⟨xs,hxs⟩:=hi.allInts.items
 have hl:s.heap.IsList a (intItems xs):=hxs ▸ pl.isList
 refine sum_intListG (I.ok.hd hc) hl fun h' tk t' hk=>?_
 have e:preSum (numAt xs) xs.size=ns.sum:=by
  rw [preSum_eq,List.take_of_length_le (by simp),← nums_intItems,← hxs,show its.toArray.toList=its from rfl,hi.numsOf]
 exact ⟨.int ns.sum,H,I.kept (t':=tk) hk,⟨t',by rw [e]⟩,q⟩
theorem zgM:zeh X (.builtin "isinstance") (fun xs H Q=>∃ x n t b,xs=[x, .ty n]∧TyOf X.K H x t∧PySem.W.kitOne X.K t (.type n)=some b∧Q (.bl b) H):=by
 intro pins s σ H xs us Q I r h
 obtain ⟨x,n,t,b,rfl,ty,e,q⟩:=h
 obtain ⟨u,v,rfl,rx,ry⟩:=vals2 r
 cases ry
 exact zii I rx ty e fun tk=>⟨.bl b,H,I.tok tk,rfl,q⟩
end
inductive Dt where
 | int (i:Int) | bl (b:Bool) | str (x:Str) | non | tup (ds:List Dt) | lst (ds:List Dt)
def Den (K:PySem.W.Frag) (H:Hp):Nat→V→Dt→Prop
 | _,v, .int j=>v = .int j
 | _,v, .bl b=>v = .bl b
 | _,v, .str x=>v = .str x
 | _,v, .non=>v = .non
 | 0,_, .tup _=>False
 | 0,_, .lst _=>False
 | n + 1,v, .tup ds=>∃ a xs,v = .ref a∧SqT K H a xs∧Paired (Den K H n) xs ds
 | n + 1,v, .lst ds=>∃ a xs,v = .ref a∧SqL K H a xs∧Paired (Den K H n) xs ds
theorem Same.seqT {K:PySem.W.Frag} {H H':Hp} {a:Addr} {xs:List V} (e:Same H H') (h:SqT K H a xs):SqT K H' a xs:=by
 rcases h with (h | ⟨o,h⟩) | h
 ·exact .inl (.inl (e _ _ h))
 ·exact .inl (.inr ⟨o,e _ _ h⟩)
 ·exact .inr h
theorem Den.same {K:PySem.W.Frag} {H H':Hp} (e:Same H H'):∀ {n:Nat} {v:V} {d:Dt},Den K H n v d→Den K H' n v d:=by
 intro n
 induction n with
 | zero=>intro v d h;cases d <;> first | exact h | exact h.elim
 | succ n ih =>
  intro v d h
  cases d with
  | tup ds =>
   obtain ⟨a,xs,h1,h2,h3⟩:=h
   exact ⟨a,xs,h1,e.seqT h2,Paired.mapP h3 fun _ _ q=>ih q⟩
  | lst ds =>
   obtain ⟨a,xs,h1,h2,h3⟩:=h
   exact ⟨a,xs,h1,e.seq h2,Paired.mapP h3 fun _ _ q=>ih q⟩
  | int i=>exact h
  | bl b=>exact h
  | str x=>exact h
  | non=>exact h
theorem Paired.get {α β:Type} {F:α→β→Prop}:∀ {l₁:List α} {l₂:List β} {i:Nat} {a:α},Paired F l₁ l₂→l₁[i]? = some a→∃ b,l₂[i]? = some b∧F a b
 | _,_,_,_, .nil,e=>by simp at e
 | _,_,0,_, .cons r _,e=>by simp at e;subst e;exact ⟨_,rfl,r⟩
 | _,_,i + 1,x, .cons _ t,e=>by
  obtain ⟨u,h1,h2⟩:=Paired.get (i:=i) (a:=x) t (by simpa using e)
  exact ⟨u,by simpa using h1,h2⟩
section
variable {X:Cx} {pins:List (Addr × Obj)} {σ:St} {H:Hp} {s:Shared}
end
section
variable {X:Cx}
end
end L2
namespace L2
open PySem PySem.Spec PyProof.Rows
structure HasFn (K:PySem.W.Frag) (mg:Str→Option Value) (x:Str) (st:Stmt):Prop where
 ex:∃ f fd,mg x=some (.ref f)∧Fun K x x st f fd
theorem zb1 {K:PySem.W.Frag} {h:Heap} {mg:Str→Option Value} {x:Str} {st:Stmt} {f:Addr} {oc:Value} {od an:Option Addr} {osl:Array (Option Value)} {kV doc pm cdv ct:Value} (X:K.In h) (G:h.Ns mainGlobals mg)
  (a:PySem.W.nsIn K mainGlobals x=some (some (.ref f))) (l:K.lookup f=some ⟨oc,od, .func (PySem.W.fnOf x x (zav st) (zaj st) (zab st) .none kV doc pm an cdv ct),osl⟩)
  (c:PySem.W.codeIn K cdv x=true) (k:PySem.W.keepIn K (.ref f)=true):HasFn K mg x st:=⟨⟨f,_,PySem.W.mg_of X G a,zeA l c k⟩⟩
structure Def (P:Program) (w:World) (K:PySem.W.Frag) (mg:Str→Option Value) (base:Heap) (x:Str) (k:Nat) (ps:List Str) (sp:Sp):Prop where
 ex:∃ f fd,FnOk P w K mg base CX0 k f fd ps sp∧mg x=some (.ref f)∧PySem.W.keepIn K (.ref f)=true∧Binds K fd ps []
theorem zmW {X:Cx} {k:Nat} {x:Str} {ps:List Str} {sp:Sp} {e:Expr} {es:List Expr} {t:TA} {p pos:Pos} (D:Def X.prog X.w X.K X.mg X.base x k ps sp) (hr:Room k X.A) (hg:Gl X x) (ha:PA X (e :: es) t)
  (hdb:(x == ("__debug__" : Str))=false:=by decide) (he:starEach (e :: es) X.env=(false,eval e X.env) :: starEach es X.env:=by rfl) (hpl:(backTo pos (starEach es X.env)).any (·.1)=false:=by rfl) :
  PE X (.Call (.Name x p) (e :: es) [] pos) (znj sp [] E0 t):=by
 obtain ⟨f,fd,F,hm,hk,hb⟩:=D.ex
 exact zk3 F hr hg hm hk hb .nil znd ha hdb he hpl
theorem Def.of {P:Program} {w:World} {K:PySem.W.Frag} {mg:Str→Option Value} {base:Heap} {x:Str} {st:Stmt} {N ps:List Str} {k:Nat} {sp:Sp} (h:HasFn K mg x st) (S:zat N ps (zab st))
  (bind:∀ (kV doc pm:Value) (an:Option Addr) (cdv ct:Value) (us:List Value),us.length=ps.length→bindArgs (PySem.W.fnOf x x (zav st) (zaj st) (zab st) .none kV doc pm an cdv ct) ⟨us,[]⟩ = pure (ps.zip us))
  (len:∀ vs H Q E,sp vs H Q E→vs.length=ps.length)
  (hbody:∀ (f:Addr) (cdv:Value) (A:Around) (outer:List Env) (s:Shared) (H:Hp) (vs:List V) (Q:VK) (E:XK),Room k (A.deeper (envOfC x (zab st) s.heap.objs.size f cdv))→sp vs H Q E →
   ∃ t,PSs (cxOf CX0 P w K mg base N x (zab st) f cdv A outer s H E).nox (zaj st) t∧t { nx:=fun _ H'=>Q .non H',rt:=Q } (start N vs) H):Def P w K mg base x (k + 1) ps sp:=by
 obtain ⟨f,fd,hm,F⟩:=h.ex
 exact ⟨f,fd,F.ok S len (hbody f),hm,F.kp,F.binds bind⟩
theorem Same.new {H:Hp} {p:Addr} {o:HO} (h:H p=none):Same H (upd H p o):=fun b u e=>by rw [zao (zaO e h)];exact e
def Kept (l:Addr) (H H':Hp):Prop:=∀ b o,b ≠ l→H b=some o→H' b=some o
theorem Kept.upd (l:Addr) (H:Hp) (o:HO):Kept l H (upd H l o):=fun b u hb e=>by rw [zao hb];exact e
theorem Same.kept {l:Addr} {H H':Hp} (h:Same H H'):Kept l H H':=fun b o _ e=>h b o e
theorem Kept.trans {l:Addr} {H H1 H2:Hp} (a:Kept l H H1) (b:Kept l H1 H2):Kept l H H2:=fun c o hc e=>b c o hc (a c o hc e)
theorem Kept.seqT {K:PySem.W.Frag} {l:Addr} {H H':Hp} {a:Addr} {xs ys:List V} (e:Kept l H H') (hl:H l=some (.lst ys)) (h:SqT K H a xs):SqT K H' a xs:=by
 rcases h with (h | ⟨o,h⟩) | h
 ·exact .inl (.inl (e _ _ (zmT h hl (by intro z;cases z)) h))
 ·exact .inl (.inr ⟨o,e _ _ (zmT h hl (by intro z;cases z)) h⟩)
 ·exact .inr h
def IsTI (K:PySem.W.Frag) (H:Hp) (v:V) (ns:List Int):Prop:=∃ p,v = .ref p∧SqT K H p (ns.map V.int)
theorem IsTI.same {K:PySem.W.Frag} {H H':Hp} {v:V} {ns:List Int} (e:Same H H') (h:IsTI K H v ns):IsTI K H' v ns:=let ⟨p,a,b⟩:=h; ⟨p,a,e.seqT b⟩
theorem IsTI.kept {K:PySem.W.Frag} {l:Addr} {H H':Hp} {v:V} {ns:List Int} {ys:List V} (e:Kept l H H') (hl:H l=some (.lst ys)) (h:IsTI K H v ns):IsTI K H' v ns:=let ⟨p,a,b⟩:=h; ⟨p,a,e.seqT hl b⟩
def Rows (K:PySem.W.Frag) (H:Hp) (xs:List V) (rs:List (List Int)):Prop:=Paired (IsTI K H) xs rs
theorem Rows.same {K:PySem.W.Frag} {H H':Hp} {xs:List V} {rs:List (List Int)} (e:Same H H') (h:Rows K H xs rs):Rows K H' xs rs:=Paired.mapP h fun _ _ q=>q.same e
theorem Rows.kept {K:PySem.W.Frag} {l:Addr} {H H':Hp} {xs ys:List V} {rs:List (List Int)} (e:Kept l H H') (hl:H l=some (.lst ys)) (h:Rows K H xs rs):Rows K H' xs rs:=Paired.mapP h fun _ _ q=>q.kept e hl
theorem Rows.snoc {K:PySem.W.Frag} {H:Hp} {xs:List V} {rs:List (List Int)} {v:V} {r:List Int} (h:Rows K H xs rs) (q:IsTI K H v r):Rows K H (xs ++ [v]) (rs ++ [r]):=Paired.snoc h q
end L2
namespace L2
open PySem PySem.Spec PyProof.Rows
def TbAt (h₀ h:Heap) (H:Hp) (x:Addr) (vs:Array Value):Prop :=
 ∃ T oT ts,vs[1]? = some (.ref T)∧T ≠ x∧h₀.get? T=none∧H T=none∧h.get? T=some oT∧oT.data = .fields ts∧3 < ts.size
def ExAt (h₀ h:Heap) (H:Hp) (x:Addr) (cls:Value) (dx:Option Addr) (tb:Bool):Prop :=
 h₀.get? x=none∧H x=none∧∃ oe vs,h.get? x=some oe∧oe.cls=cls∧oe.dict=dx∧oe.data = .fields vs∧1 < vs.size∧((tb=false∧vs[1]? = some .none)∨TbAt h₀ h H x vs)
theorem ExAt.any {h₀ h:Heap} {H:Hp} {x:Addr} {cls:Value} {dx:Option Addr} {tb:Bool} (e:ExAt h₀ h H x cls dx tb):ExAt h₀ h H x cls dx false:=by
 obtain ⟨a,b,oe,vs,c1,c2,c3,c4,c5,c6⟩:=e
 exact ⟨a,b,oe,vs,c1,c2,c3,c4,c5,c6.imp (fun z=>⟨rfl,z.2⟩) id⟩
structure Top1 (X:Cx):Prop where
 stk:X.stack=X.env :: X.outer
 frm:X.env.frame=some X.env.locals
 pn:X.pn=[]
theorem Top1.mem {X:Cx} (t:Top1 X) {b:Addr}:b ∈ frs X.stack↔b=X.env.locals∨b ∈ X.fs:=by
 rw [t.stk]
 unfold frs
 rw [List.filterMap_cons,t.frm]
 exact List.mem_cons
section
variable {X:Cx} {σ:St} {H:Hp} {s:Shared}
theorem Inv.recs {h':Heap} {ch:List Addr} (I:Inv X [] σ H s) (t:Top1 X) (hch:∀ b ∈ ch,X.s₀.heap.get? b=none∧H b=none∧∃ o vs,s.heap.get? b=some o∧o.data = .fields vs)
  (keep:∀ b o,b ∉ frs X.stack→b ∉ ch→s.heap.get? b=some o→h'.get? b=some o) (slot:∀ b o,b ∈ frs X.stack→s.heap.get? b=some o→∃ sl,h'.get? b=some { o with slots:=sl }) :
  Inv X [] σ H { s with heap:=h' }:=by
 have ncell:∀ c v,s.heap.IsCell c v→c ∉ ch:=fun c v ⟨o,ho,hd⟩ hc=>by
  obtain ⟨_,_,o',vs,e,d⟩:=hch c hc
  rw [ho] at e;cases e
  rw [hd] at d;cases d
 have any:∀ b o,b ∉ ch→s.heap.get? b=some o→∃ sl,h'.get? b=some { o with slots:=sl }:=fun b o hc e=>by
  by_cases hb:b ∈ frs X.stack
  ·exact slot b o hb e
  ·exact ⟨o.slots,keep b o hb hc e⟩
 have cellK:∀ c v,s.heap.IsCell c v→h'.IsCell c v:=fun c v z=>by
  obtain ⟨o,ho,hd⟩:=id z
  obtain ⟨sl,e⟩:=any c o (ncell c v z) ho
  exact ⟨_,e,hd⟩
 have old:∀ b o,X.s₀.heap.get? b=some o→b ≠ X.env.locals∧b ∉ ch:=fun b o e =>
  ⟨Nat.ne_of_lt (Nat.lt_of_lt_of_le (Heap.lt_size e) I.ok.above),fun hc=>by rw [(hch b hc).1] at e;cases e⟩
 have nfr:∀ b,b ≠ X.env.locals→b ∉ X.fs→b ∉ frs X.stack:=fun b h1 h2 z=>(t.mem.mp z).elim h1 h2
 refine ⟨I.ok,I.os,I.bare,⟨fun b o e n hb hx=>?_,fun b o e n hb hx=>?_,I.base.free,fun b o e hx=>?_,I.base.tups,I.base.frzs,I.base.tbls⟩,?_,fun x c e=>?_,I.free,I.freeC,fun p hp=>?_,fun b u e=>?_,I.len⟩
 ·exact keep b o (nfr b (old b o e).1 hb) (old b o e).2 (I.base.keep b o e n hb hx)
 ·obtain ⟨sl,e1⟩:=I.base.slot b o e n hb hx
  obtain ⟨sl',e2⟩:=any b _ (old b o e).2 e1
  exact ⟨sl',e2⟩
 ·obtain ⟨o',e1⟩:=I.base.there b o e hx
  obtain ⟨sl,e2⟩:=any b o' (old b o e).2 e1
  exact ⟨_,e2⟩
 ·obtain ⟨m,hn,hl⟩:=I.loc
  obtain ⟨o,es,ep,ho,hd,r⟩:=id hn
  have hLc:X.env.locals ∉ ch:=fun hc=>by
   obtain ⟨_,_,o',vs,e,d⟩:=hch _ hc
   rw [ho] at e;cases e
   rw [hd] at d;cases d
  obtain ⟨sl,e⟩:=any _ o hLc ho
  refine ⟨m,⟨_,es,ep,e,hd,r⟩,fun i x v e1 e2 e3=>?_⟩
  obtain ⟨u,ru,l⟩:=hl i x v e1 e2 e3
  refine ⟨u,ru,?_⟩
  rcases l with l | ⟨k,c,ec,z⟩
  ·exact .inl l
  ·exact .inr ⟨k,c,ec,cellK c _ z⟩
 ·obtain ⟨v,z⟩:=I.cell x c e
  exact ⟨v,cellK c v z⟩
 ·rw [t.pn] at hp
  simp at hp
 ·refine (I.hok b u e).stay (fun c v hc q=>keep c v ?_ ?_ q) (fun _ q=>q) fun _ _ q=>q
  ·intro z
   have f:=I.zgT c z
   rcases hc with y | y
   ·rw [y,e] at f;cases f
   ·rw [y] at f;cases f
  ·intro z
   have f:=(hch c z).2.1
   rcases hc with y | y
   ·rw [y,e] at f;cases f
   ·rw [y] at f;cases f
variable {M:Model} {E:Value→Shared→Prop} {x:Addr} {cls:Value} {dx:Option Addr}
theorem ExAt.zkv (I:Inv X [] σ H s) {b:Addr} {o:Obj} {vs:Array Value} (e:s.heap.get? b=some o) (d:o.data = .fields vs):b ∉ frs X.stack:=fun hm=>by
 obtain ⟨_,o',ho,hnf⟩:=I.stack.mem hm
 rw [e] at ho;cases ho
 exact hnf vs d
theorem zho (I:Inv X [] σ H s) (t:Top1 X) {oe:Obj} {vs:Array Value} {head:Value} {had:Bool} {Q:Unit→Shared→Prop} (hx0:X.s₀.heap.get? x=none) (hxH:H x=none) (he:s.heap.get? x=some oe) (hd:oe.data = .fields vs) (hsz:1 < vs.size)
  (q:∀ h',Inv X [] σ H { s with heap:=h' }→ExAt X.s₀.heap h' H x oe.cls oe.dict true→Q () { s with heap:=h' }) :
  wpAny M X.A (do let a ← frameOf X.env;let pl ← entryPlaceOf X.env.locals had;let b ← EntryCells.newEntry head a .none (rawInt X.env.locals) .none pl;setField (.ref x) 1 b) Q E s:=by
 have hfr:X.A.frames=some (X.env :: X.outer):=by rw [← t.stk];exact I.ok.frames
 have hl:s.heap.FunFrames X.base (X.env :: X.outer):=by rw [← t.stk];exact I.stack
 have hne:x ∉ frs X.stack:=ExAt.zkv I he hd
 have efr:(X.env :: X.outer).filterMap (·.frame)=frs X.stack:=by rw [t.stk];rfl
 refine wpAny_bind (wpAny_frameOf_fun hfr hl t.frm fun h1 s1=>wpAny_bind (wpAny_entryPlaceOf fun pl hpl=>?_))
 rw [efr] at s1
 unfold EntryCells.newEntry
 unfold newFields
 refine wpAny_bind (wpAny_newObj_type ?_ (hpl.sizeOk5 _ _ _ _ _))
 have he1:h1.get? x=some oe:=(s1.2.1 x hne).trans he
 generalize hto:({ cls := .type "traceback",dict:=none,data := .fields ([head, .ref X.env.locals, .none,rawInt X.env.locals, .none] ++ (if pl.isEmpty then List.replicate 6 Value.none else pl)).toArray }:Obj)=to
 have hte:∃ ts,to.data = .fields ts∧3 < ts.size:=⟨_,by rw [← hto],by simp only [List.size_toArray,List.length_append,List.length_cons,List.length_nil];omega⟩
 have htf:to.isFreed=false:=by rw [← hto];rfl
 have he2:(h1.push to).get? x=some oe:=Heap.get?_push_of_some _ he1
 have hTx:h1.objs.size ≠ x:=Nat.ne_of_gt (Heap.lt_size he1)
 refine wpAny_setField he2 hd hsz ?_
 have hd3:=Obj.data_mapFields hd (·.setIfInBounds 1 (Value.ref h1.objs.size))
 have he3:=Heap.get?_update_self (Obj.mapFields (·.setIfInBounds 1 (Value.ref h1.objs.size))) he2 (Obj.isFreed_of_fields hd3)
 have hT3:=(Heap.get?_update_other (h1.push to) (Obj.mapFields (·.setIfInBounds 1 (Value.ref h1.objs.size))) (Ne.symm hTx)).trans (Heap.get?_push_size h1 htf)
 have kp:∀ b o,b ≠ x→h1.get? b=some o→((h1.push to).update x (Obj.mapFields (·.setIfInBounds 1 (Value.ref h1.objs.size)))).get? b=some o:=fun b o hb e =>
  (Heap.get?_update_other _ _ (Ne.symm hb)).trans (Heap.get?_push_of_some _ e)
 have hT0:X.s₀.heap.get? h1.objs.size=none:=by
  cases e:X.s₀.heap.get? h1.objs.size with
  | none=>rfl
  | some o =>
   have h2:=Nat.lt_of_lt_of_le (Heap.lt_size e) I.sz
   rw [s1.1] at h2
   exact absurd h2 (Nat.lt_irrefl _)
 have hTH:H h1.objs.size=none:=by rw [s1.1];exact I.hok.fresh (Nat.le_refl _)
 refine q _ (I.recs t (ch:=[x]) (fun b hb=>?_) (fun b o hb hc e=>?_) fun b o hb e=>?_) ⟨hx0,hxH,_,_,he3,Obj.cls_mapFields _ _,?_,hd3,by simpa using hsz, .inr ⟨h1.objs.size,to,?_⟩⟩
 ·rw [List.mem_singleton.mp hb]
  exact ⟨hx0,hxH,oe,vs,he,hd⟩
 ·exact kp b o (fun z=>hc (by rw [z];exact List.mem_singleton.mpr rfl)) ((s1.2.1 b hb).trans e)
 ·obtain ⟨sl,e1⟩:=s1.2.2 b o e
  exact ⟨sl,kp b _ (fun z=>hne (z ▸ hb)) e1⟩
 ·obtain ⟨c,d,dt,sl⟩:=oe
  cases dt <;> rfl
 ·obtain ⟨ts,d1,d2⟩:=hte
  exact ⟨ts,by simp [hsz],hTx,hT0,hTH,hT3,d1,d2⟩
theorem zgR (I:Inv X [] σ H s) (t:Top1 X) {tb:Bool} {Q:Unit→Shared→Prop} (e:ExAt X.s₀.heap s.heap H x cls dx tb)
  (q:∀ h',Inv X [] σ H { s with heap:=h' }→ExAt X.s₀.heap h' H x cls dx true→Q () { s with heap:=h' }):wpAny M X.A (noteFrame (.ref x) X.env) Q E s:=by
 obtain ⟨hx0,hxH,oe,vs,he,rfl,rfl,hd,hsz,tb'⟩:=id e
 unfold noteFrame
 simp only [t.frm]
 rcases tb' with ⟨_,h1⟩ | ⟨T,oT,ts,h1,hTx,hT0,hTH,hT,hdT,h3⟩
 ·refine wpAny_bind (wpAny_field he hd h1 ?_)
  rw [if_neg (by decide)]
  exact zho I t hx0 hxH he hd hsz q
 ·refine wpAny_bind (wpAny_field he hd h1 ?_)
  rw [if_pos (show (Value.ref T != Value.none)=true from by simp)]
  obtain ⟨v3,hv3⟩ : ∃ v3,ts[3]? = some v3:=⟨ts[3],Array.getElem?_eq_getElem h3⟩
  refine wpAny_bind (wpAny_field hT hdT hv3 ?_)
  by_cases hb:(v3 == rawInt X.env.locals)=true
  ·rw [if_pos hb]
   exact wpAny_pure (q s.heap I ⟨hx0,hxH,oe,vs,he,rfl,rfl,hd,hsz, .inr ⟨T,oT,ts,h1,hTx,hT0,hTH,hT,hdT,h3⟩⟩)
  ·rw [if_neg hb]
   refine wpAny_bind (wpAny_setField hT hdT h3 ?_)
   have oth:∀ b,b ≠ T→(s.heap.update T (Obj.mapFields (·.setIfInBounds 3 Value.none))).get? b=s.heap.get? b:=fun b hb=>Heap.get?_update_other _ _ (Ne.symm hb)
   have hTfr:T ∉ frs X.stack:=ExAt.zkv I hT hdT
   have I1:Inv X [] σ H { s with heap:=s.heap.update T (Obj.mapFields (·.setIfInBounds 3 Value.none)) }:=I.recs t (ch:=[T]) (fun b hb=>by
    rw [List.mem_singleton.mp hb]
    exact ⟨hT0,hTH,oT,ts,hT,hdT⟩) (fun b o _ hc e=>(oth b (fun z=>hc (by rw [z];exact List.mem_singleton.mpr rfl))).trans e) fun b o hb e=>⟨o.slots,(oth b (fun z=>hTfr (z ▸ hb))).trans e⟩
   exact zho I1 t hx0 hxH ((oth x (Ne.symm hTx)).trans he) hd hsz q
theorem zdu {A:Around} (I:Inv X [] σ H s) (t:Top1 X) {fo:Option Addr} {Q:Unit→Shared→Prop} (e:ExAt X.s₀.heap s.heap H x cls dx true)
  (q:∀ h',Inv X [] σ H { s with heap:=h' }→ExAt X.s₀.heap h' H x cls dx true→Q () { s with heap:=h' }):wpAny M A (setFlight (.ref x) fo) Q E s:=by
 obtain ⟨hx0,hxH,oe,vs,he,rfl,rfl,hd,hsz,tb'⟩:=id e
 rcases tb' with ⟨z,_⟩ | ⟨T,oT,ts,h1,hTx,hT0,hTH,hT,hdT,h3⟩
 ·cases z
 unfold setFlight
 refine wpAny_bind (wpAny_field he hd h1 ?_)
 rw [if_pos (show (Value.ref T != Value.none)=true from by simp)]
 refine wpAny_setField hT hdT h3 ?_
 generalize (fo.elim Value.none fun f=>rawInt f)=fv
 have oth:∀ b,b ≠ T→(s.heap.update T (Obj.mapFields (·.setIfInBounds 3 fv))).get? b=s.heap.get? b:=fun b hb=>Heap.get?_update_other _ _ (Ne.symm hb)
 have hTfr:T ∉ frs X.stack:=ExAt.zkv I hT hdT
 have hd3:=Obj.data_mapFields hdT (·.setIfInBounds 3 fv)
 refine q _ (I.recs t (ch:=[T]) (fun b hb=>?_) (fun b o _ hc e=>(oth b (fun z=>hc (by rw [z];exact List.mem_singleton.mpr rfl))).trans e) fun b o hb e=>⟨o.slots,(oth b (fun z=>hTfr (z ▸ hb))).trans e⟩)
  ⟨hx0,hxH,oe,vs,(oth x (Ne.symm hTx)).trans he,rfl,rfl,hd,hsz, .inr ⟨T,_,_,h1,hTx,hT0,hTH,Heap.get?_update_self _ hT (Obj.isFreed_of_fields hd3),hd3,by simpa using h3⟩⟩
 rw [List.mem_singleton.mp hb]
 exact ⟨hT0,hTH,oT,ts,hT,hdT⟩
end
abbrev WX:=St→Value→Option Addr→Hp→Prop
def XE (X:Cx) (W:WX):Value→Shared→Prop:=fun e s'=>∃ σ H' x cls dx,e = .ref x∧Inv X [] σ H' s'∧ExAt X.s₀.heap s'.heap H' x cls dx false∧W σ cls dx H'
section
variable {X:Cx}
theorem znC (t:Top1 X) {W:WX}:PassesOwn (model X.prog X.w) X.A X.env (XE X W):=by
 rintro e s' ⟨σ,H',x,cls,dx,rfl,I,ex,w⟩
 unfold notedBy
 refine zgR I t ex fun h1 I1 e1=>?_
 unfold cameBackBy
 obtain ⟨hx0,hxH,oe,vs,he,hc,hdx,hd,hsz,tb'⟩:=id e1
 rcases tb' with ⟨z,_⟩ | ⟨T,oT,ts,h1',hTx,hT0,hTH,hT,hdT,h3⟩
 ·cases z
 refine wpAny_bind (wpAny_field he hd h1' ?_)
 rw [if_neg (show ¬ ((Value.ref T == Value.none)=true) from by simp)]
 exact zdu I1 t e1 fun h2 I2 e2=>⟨σ,H',x,cls,dx,rfl,I2,e2.any,w⟩
def CXE (P:Program) (w:World):CXT:=fun outer H s E e s'=>∃ x cls dx H',e = .ref x∧s'.os=s.os∧AllBare s'.gens∧Un (frs outer) [] H H' s.heap s'.heap∧HOk P w H' s'.heap∧ExAt s.heap s'.heap H' x cls dx true∧E cls dx H'
end
end L2
namespace L2
open PySem PySem.Spec PyProof.Rows
structure zde (X:Cx) (W:WX):Prop where
 top:Top1 X
 ex:X.ex=[]
 to:∀ e s',XE X W e s'→X.xe e s'
 passes:PassesOwn (model X.prog X.w) X.A X.env X.xe
theorem zde.of {X:Cx} (t:Top1 X) (hx:X.ex=[]) (W:WX):zde (X.wish (XE X W)) W where
 top:=⟨t.stk,t.frm,t.pn⟩
 ex:=hx
 to:=fun e s' ⟨σ,H',x,cls,dx,a,I,b,c⟩=>⟨σ,H',x,cls,dx,a,I.zck,b,c⟩
 passes:=znC t
theorem Inv.zlx {X:Cx} {pins:List (Addr × Obj)} {σ:St} {H:Hp} {s:Shared} (I:Inv X pins σ H s):Inv X [] σ H s:=I.zgY fun p hp=>absurd hp (by simp)
theorem Inv.first {X:Cx} {pins:List (Addr × Obj)} {σ:St} {H:Hp} {s:Shared} (I:Inv X pins σ H s) (hx:X.ex=[]) {b:Addr} (h:s.heap.get? b=none):X.s₀.heap.get? b=none:=by
 cases e:X.s₀.heap.get? b with
 | none=>rfl
 | some o =>
  obtain ⟨o',e'⟩:=I.base.there b o e (by rw [hx];simp)
  rw [h] at e';cases e'
theorem ExAt.first {X:Cx} {pins:List (Addr × Obj)} {σ:St} {H H':Hp} {s:Shared} {h':Heap} {x:Addr} {cls:Value} {dx:Option Addr} {tb:Bool} (I:Inv X pins σ H s) (hx:X.ex=[]) (e:ExAt s.heap h' H' x cls dx tb) :
  ExAt X.s₀.heap h' H' x cls dx tb:=by
 obtain ⟨a,b,oe,vs,c1,c2,c3,c4,c5,c6⟩:=e
 refine ⟨I.first hx a,b,oe,vs,c1,c2,c3,c4,c5,c6.imp id fun ⟨T,oT,ts,d1,d2,d3,d4,d5,d6,d7⟩=>⟨T,oT,ts,d1,d2,I.first hx d3,d4,d5,d6,d7⟩⟩
theorem zco.at {P:Program} {w:World} {H:Hp} {h:Heap} {a:Addr} {o:HO} (x:zco P w H h a o):∃ ob,h.get? a=some ob:=by
 cases o with
 | lst xs=>obtain ⟨_,_,_,_,e⟩:=x;exact ⟨_,e⟩
 | tup xs=>obtain ⟨_,_,_,_,e,_⟩:=x;exact ⟨_,e⟩
 | dK kvs=>obtain ⟨_,_,_,_,o,_,_,e,_⟩:=x;exact ⟨_,e⟩
 | dT kvs=>obtain ⟨_,_,_,_,o,_,_,e,_⟩:=x;exact ⟨_,e⟩
 | set S n=>obtain ⟨o,_,_,_,e,_⟩:=x;exact ⟨_,e⟩
 | ins C dx fs=>obtain ⟨_,_,_,e,_⟩:=x;exact ⟨_,e⟩
 | own y=>exact x
 | xd fs=>obtain ⟨_,⟨_,_,_,e,_⟩,_⟩:=x;exact ⟨_,e⟩
 | rng lo hi=>obtain ⟨_,_,_,e⟩:=x;exact ⟨_,e⟩
 | frz ob u=>obtain ⟨e,_⟩:=x;exact ⟨_,e⟩
 | tbl ps=>exact ⟨_,show h.get? a=some _ from x⟩
 | met f y=>exact ⟨_,show h.get? a=some _ from x⟩
 | ext φ=>obtain ⟨_,e,_⟩:=x;exact e
theorem HOk.zmb {P:Program} {w:World} {H:Hp} {h:Heap} {a:Addr} (x:HOk P w H h) (e:h.get? a=none):H a=none:=by
 cases ea:H a with
 | none=>rfl
 | some o =>
  obtain ⟨ob,e'⟩:=(x a o ea).at
  rw [e] at e';cases e'
section
variable {P:Program} {w:World} {K:PySem.W.Frag} {mg:Str→Option Value} {base:Heap}
abbrev cxX (P:Program) (w:World) (K:PySem.W.Frag) (mg:Str→Option Value) (base:Heap) (N:List Str) (qual:Str) (scope:Scope) (f:Addr) (cd:Value) (A:Around) (outer:List Env) (s:Shared) (H:Hp) (E:XK):Cx :=
 (cxOf (CXE P w) P w K mg base N qual scope f cd A outer s H E).wish (XE (cxOf (CXE P w) P w K mg base N qual scope f cd A outer s H E) fun _=>E)
theorem zep {CX:CXT} {N:List Str} {qual:Str} {scope:Scope} {f:Addr} {cd:Value} {A:Around} {outer:List Env} {s:Shared} {H:Hp} {E:XK}:Top1 (cxOf CX P w K mg base N qual scope f cd A outer s H E):=⟨rfl,rfl,rfl⟩
theorem zag {N:List Str} {qual:Str} {scope:Scope} {f:Addr} {cd:Value} {A:Around} {outer:List Env} {s:Shared} {H:Hp} {E:XK}:zde (cxX P w K mg base N qual scope f cd A outer s H E) (fun _=>E):=zde.of zep rfl _
theorem zjq {N:List Str} {qual:Str} {scope:Scope} {f:Addr} {cd:Value} {A:Around} {outer:List Env} {s:Shared} {H:Hp} {E:XK} {st:List Stmt} {t:TS} (h:PSs (cxX P w K mg base N qual scope f cd A outer s H E) st t) :
  PSs (cxOf (CXE P w) P w K mg base N qual scope f cd A outer s H E) st t:=by
 intro pins s1 σ H1 D I hw
 refine wpAny_mono (h pins s1 σ H1 D (I.wish _) hw) (fun _ _ q=>q.zck) fun e s' hx=>?_
 obtain ⟨σ',H',x,cls,dx,rfl,I',ex,q⟩:=hx
 show wpAny _ _ (leaving _ _) _ _ _
 unfold leaving
 refine wpAny_bind (zgR (E:=fun e' s''=>CXE P w outer H s E e' s'') I' zep ex fun h1 I1 e1=>?_)
 refine zdu I1 zep e1 fun h2 I2 e2=>?_
 exact ⟨x,cls,dx,H',rfl,I2.os,I2.bare,I2.base,I2.hok,e2,q⟩
structure DefX (P:Program) (w:World) (K:PySem.W.Frag) (mg:Str→Option Value) (base:Heap) (x:Str) (k:Nat) (ps:List Str) (sp:Sp):Prop where
 ex:∃ f fd,FnOk P w K mg base (CXE P w) k f fd ps sp∧mg x=some (.ref f)∧PySem.W.keepIn K (.ref f)=true∧Binds K fd ps []
theorem DefX.of {x:Str} {st:Stmt} {N ps:List Str} {k:Nat} {sp:Sp} (h:HasFn K mg x st) (S:zat N ps (zab st))
  (bind:∀ (kV doc pm:Value) (an:Option Addr) (cdv ct:Value) (us:List Value),us.length=ps.length→bindArgs (PySem.W.fnOf x x (zav st) (zaj st) (zab st) .none kV doc pm an cdv ct) ⟨us,[]⟩ = pure (ps.zip us))
  (len:∀ vs H Q E,sp vs H Q E→vs.length=ps.length)
  (hbody:∀ (f:Addr) (cdv:Value) (A:Around) (outer:List Env) (s:Shared) (H:Hp) (vs:List V) (Q:VK) (E:XK),Room k (A.deeper (envOfC x (zab st) s.heap.objs.size f cdv))→sp vs H Q E →
   ∃ t,PSs (cxX P w K mg base N x (zab st) f cdv A outer s H E) (zaj st) t∧t { nx:=fun _ H'=>Q .non H',rt:=Q } (start N vs) H):DefX P w K mg base x (k + 1) ps sp:=by
 obtain ⟨f,fd,hm,F⟩:=h.ex
 refine ⟨f,fd,?_,hm,F.kp,F.binds bind⟩
 obtain ⟨oc,od,kV,doc,pm,an,cdv,ct,osl,rfl,lk,hcd⟩:=F.ex
 refine zjX lk hcd S len fun A outer s H vs Q E hr hsp=>?_
 obtain ⟨t,h,q⟩:=hbody f cdv A outer s H vs Q E hr hsp
 exact ⟨t,zjq h,q⟩
end
section
variable {X:Cx} {W:WX} {x:Str} {p pos np cpos:Pos} {e:Expr} {es:List Expr} {t:TA}
def znz (sp:Sp) (W:WX) (t:TA):TE:=fun σ H Q=>t σ H fun vs H1=>sp vs H1 Q fun cls dx H'=>W σ cls dx H'
theorem zk6 {k:Nat} {ps:List Str} {sp:Sp} (T:zde X W) (D:DefX X.prog X.w X.K X.mg X.base x k ps sp) (hr:Room k X.A) (hg:Gl X x) (ha:PA X (e :: es) t)
  (hdb:(x == ("__debug__" : Str))=false:=by decide) (he:starEach (e :: es) X.env=(false,eval e X.env) :: starEach es X.env:=by rfl) (hpl:(backTo pos (starEach es X.env)).any (·.1)=false:=by rfl) :
  PE X (.Call (.Name x p) (e :: es) [] pos) (znz sp W t):=by
 obtain ⟨f,fd,F,hm,hk,hb⟩:=D.ex
 intro pins s σ H Q I h
 refine wpAny_Call_Name_kw (zdG I hg hm ?_ hdb)
 refine PySem.W.callWith_K (h₀:=X.base) I.ok.mod.kin hk (thn (ha pos pins s σ H _ I h) fun us s1 ⟨vs,H1,I1,r,q⟩=>⟨I1.kIn,?_⟩) he hpl
 have hl:us.length=ps.length:=by rw [← r.length];exact F.len _ _ _ _ q
 have hb':=hb s1 us I1.kIn (by rw [List.append_nil];exact hl)
 rw [List.append_nil] at hb'
 refine wpAny_call (codeAny_mono (F.run X.A X.stack s1 H1 ⟨us,[]⟩ us vs Q _ hr I1.env0 hb' r q) fun r s' hq=>?_)
 cases r with
 | error ev =>
  obtain ⟨a,cls,dx,H',rfl,os,bare,un,hok,ex,q'⟩:=hq
  have I2:=(I1.zlX os un hok bare (fun b z=>absurd z (by simp))).zlx
  exact T.to _ _ ⟨σ,H',a,cls,dx,rfl,I2,(ex.first I1 T.ex).any,q'⟩
 | ok fl =>
  cases fl with
  | ret u=>exact I1.after hq
  | next=>exact False.elim hq
  | brk=>exact False.elim hq
  | cont=>exact False.elim hq
abbrev bmVE:List Value:=[.type "ValueError", .type "Exception", .type "BaseException", .type "object"]
structure OwnE (K:PySem.W.Frag) (C:Addr):Prop where
 inK:PySem.W.excIn K C bmVE "ValueError.__new__" = true
theorem OwnE.obj {K:PySem.W.Frag} {C:Addr} (O:OwnE K C) {h:Heap} (X:K.In h):∃ bm N nm q bs hdct sn sub ab col dd k0 k1 k2 k3 k5 mN,h.get? C=some (excClassObj nm q C N bs bm hdct sn sub ab col dd k0 k1 k2 k3 k5 "ValueError.__new__")∧h.Ns N mN∧mN "__init__" = none∧OwnTail h bmVE bm:=by
 have q:=O.inK
 unfold PySem.W.excIn at q
 split at q
 ·rename_i dd cd sl ho
  split at q
  ·rename_i C' bm k0 k1 k2 k3 n k5 hm hs
   simp only [Bool.and_eq_true,beq_iff_eq,Bool.not_eq_true'] at q
   obtain ⟨⟨⟨⟨⟨rfl,rfl⟩,hdel⟩,ht⟩,hok⟩,hni⟩:=q
   obtain ⟨nm,bs,mro,ns,qn,hd,sn,sub,ab,col,del⟩:=cd
   dsimp only at hm hdel hok hni
   subst hm hdel
   have hsl:sl = #[k0,k1,k2,k3,some (.builtin "ValueError.__new__"),k5]:=by
    obtain ⟨l⟩:=sl
    simp only at hs
    rw [hs]
   subst hsl
   exact ⟨bm,ns,nm,qn,bs,hd,sn,sub,ab,col,dd,k0,k1,k2,k3,k5,_,X _ _ ho, .of_isNs (PySem.W.isNs_of_in X hok),PySem.W.nsMap_none_of_in X hok hni,PySem.W.tail_of_in X ht⟩
  ·cases q
 ·cases q
def znD (W:WX) (C:Addr) (t:TA):TS:=fun _ σ H=>t σ H fun vs H1=>vs.length ≤ sizeLine∧W σ (.ref C) none H1
theorem zkB {C:Addr} (T:zde X W) (hc:X.calm=true) (O:OwnE X.K C) (hg:Gl X x) (hm:X.mg x=some (.ref C)) (ha:PA X (e :: es) t)
  (hdb:(x == ("__debug__" : Str))=false:=by decide) (he:starEach (e :: es) X.env=(false,eval e X.env) :: starEach es X.env:=by rfl) (hpl:(backTo cpos (starEach (e :: es) X.env)).any (·.1)=false:=by rfl) :
  PS X (.Raise (some (.Call (.Name x np) (e :: es) [] cpos)) none pos) (znD W C t):=by
 intro pins s σ H D I h
 obtain ⟨bm,N,nm,q,bs,hdct,sn,sub,ab,col,dd,k0,k1,k2,k3,k5,mN,hC,hN,hni,hT⟩:=O.obj I.ok.mod.kin
 have hbase:bm.contains (.type "BaseException")=true:=hT.hasType (by decide)
 refine wpAny_Raise_call_subT (nm:=nm) (q:=q) (N:=N) (bs:=bs) (hdct:=hdct) (sn:=sn) (sub:=sub) (ab:=ab) (col:=col) (dd:=dd) (k0:=k0) (k1:=k1) (k2:=k2) (k3:=k3) (k5:=k5) PySem.F.excBase_ValueError hbase (I.ok.hd hc) hpl hni (zdG I hg hm ⟨rfl,?_⟩ hdb)
 rw [he]
 refine Calls.evalArgs_plain ?_
 have ha':=ha cpos pins s σ H _ I h
 rw [he] at ha'
 refine thn ha' fun us s1 ⟨vs,H1,I1,r,hz,q1⟩=>⟨rfl,by rw [← r.length];exact hz,I1.bk _ _ hC,hN.keeps I1.bk,hT.keeps I1.bk,fun h' a M=>?_⟩
 obtain ⟨tt,ht,htn,_⟩:=M.there
 have hH:H1 a=none:=I1.hok.zmb M.new
 refine T.to _ _ ⟨σ,H1,a, .ref C,none,rfl,(I1.kept (t':=s1.toks) M.keeps).zlx,⟨I1.first T.ex M.new,hH,_,_,ht,rfl,rfl,rfl,by simp, .inl ⟨rfl,rfl⟩⟩,q1⟩
end
end L2
namespace L2
open PySem PySem.Spec PyProof.Rows
structure XC (K:PySem.W.Frag) (C:Addr):Prop where
 ob:∃ nm q N bs bm hdct sn sub ab col dd k0 k1 k2 k3 k5,K.lookup C=some (excClassObj nm q C N bs bm hdct sn sub ab col dd k0 k1 k2 k3 k5 "ValueError.__new__")
 ga:PySem.W.findIn K (.ref C) "__getattribute__" = some (some (.builtin "BaseException.__getattribute__"))
 gt:PySem.W.findIn K (.ref C) "__getattr__" = some none
 cl:PySem.W.findIn K (.ref C) "__class__" = some (some (.builtin "object.__class__"))
 be:PySem.W.subIn K (.ref C) (.type "BaseException")=some true
 oj:PySem.W.subIn K (.ref C) (.type "object")=some true
section
variable {prog:Program} {w:World} {A:Around} {E:Value→Shared→Prop} {h:Heap} {g:Array GenState} {d:Drawn} {t:Nat} {os:OsState} {a:Addr} {o:Obj} {K:PySem.W.Frag} {C:Addr}
theorem znT {R:Result→Shared→Prop} (c:XC K C) (X:K.In h) (hx:h.get? a=some o) (hc:o.cls = .ref C) (hq:R (.ok (.ret (.ref C))) ⟨h,g,d,t,os⟩) :
  codeAny (model prog w) A (.call (.builtin "getset_descriptor.__get__") ⟨[.builtin "object.__class__", .ref a, .ref C],[]⟩) R ⟨h,g,d,t,os⟩:=by
 have hT5:(⟨h,g,d,t,os⟩ : Shared).TypeIs (.builtin "object.__class__") "getset_descriptor":=F.typeOf_object_class
 have L:PySem.W.Looks (model prog w) h (isSubtype (.ref C) (.type (".".intercalate ("object.__class__".cutAt '.').dropLast))) true:=by
  rw [F.owner_object_class]
  exact PySem.W.looks_subIn X c.oj
 refine codeAny_call_builtin F.slot_gs_get.plain F.entry_gs_get (F.slot_gs_get.check _ _ _ _ _ _ _ _ hT5 (F.args_gs_get _ _ _) ?_)
 repeat (any_goals (first | assumption | (with_reducible refine wpAny_loadPart_at hx ?_;rw [hc]) | with_reducible refine L.at ?_ | wp_step))
 refine ⟨Code.quiet_builtin _ (by decide +kernel),codeAny_builtin F.entry_object_class ?_⟩
 repeat (any_goals (first | assumption | (with_reducible refine wpAny_loadPart_at hx ?_;rw [hc]) | wp_step))
theorem zjP {tk:Tok} {Q:Fin→Shared→Prop} (c:XC K C) (X:K.In h) (hx:h.get? a=some o) (hc:o.cls = .ref C) (hq:Q (.done (.ret (.ref C))) ⟨h,g,d,t,os⟩) :
  wpAny (model prog w) A (Builtin.«object.__getattribute__» ⟨[.ref a, .str "__class__" tk],[]⟩) Q E ⟨h,g,d,t,os⟩:=by
 have hT5:(⟨h,g,d,t,os⟩ : Shared).TypeIs (.builtin "object.__class__") "getset_descriptor":=F.typeOf_object_class
 have f5:=F.typeOf_object_class
 have f6:=F.slot_gs_get.lookup
 have f7:=F.slot_gs_set.lookup
 have L1:=PySem.W.looks_findIn (M:=model prog w) X c.cl
 repeat (any_goals (first | assumption | (with_reducible refine wpAny_loadPart_at hx ?_;rw [hc]) | with_reducible refine L1.at ?_ | wp_step))
 refine znT c X hx hc ?_
 repeat (any_goals (first | assumption | wp_step))
theorem zko {M:Model} {nameV:Value} {Q:Unit→Shared→Prop} (c:XC K C) (X:K.In h) (hx:h.get? a=some o) (hc:o.cls = .ref C) (hq:Q () ⟨h,g,d,t,os⟩) :
  wpAny M A (checkBuiltinCall "BaseException.__getattribute__" ⟨[.ref a,nameV],[]⟩) Q E ⟨h,g,d,t,os⟩:=by
 have L:PySem.W.Looks M h (isInstance (.ref a) (.type "BaseException")) true:=by
  refine PySem.W.Looks.andThen (a := .ref C) ?_ (PySem.W.looks_subIn X c.be)
  rw [← hc]
  exact (PySem.W.Looks.ld hx).andThen .now
 have hk:builtinKind "BaseException.__getattribute__" = some .slot:=by decide +kernel
 have hs:splitId "BaseException.__getattribute__" = some ("BaseException", "__getattribute__"):=by decide +kernel
 have ha:=F.args_bexc_ga (.ref a) nameV
 exact PySem.W.check_slot (i := "BaseException.__getattribute__") (owner := "BaseException") (n := "__getattribute__") (self := .ref a) (rest:=[nameV]) (kw:=[]) (s:=⟨h,g,d,t,os⟩) hk hs L ha hq
theorem zoN {tk:Tok} {fill expr:Bool} {Q:Value→Shared→Prop} (c:XC K C) (X:K.In h) (hx:h.get? a=some o) (hc:o.cls = .ref C) (hq:Q (.ref C) ⟨h,g,d,t,os⟩) :
  wpAny (model prog w) A (getAttrBy (.ref a) (.str "__class__" tk) fill expr) Q E ⟨h,g,d,t,os⟩:=by
 have f3:=PySem.F.excAttr_ValueError.ga.bind (.ref a)
 have hx0:(expr && onTheHeap (Value.builtin "BaseException.__getattribute__"))=false:=by cases expr <;> rfl
 have hx2:(Value.builtin "BaseException.__getattribute__" == Value.builtin "object.__getattribute__")=false:=by decide +kernel
 have hx1:(onTheHeap (Value.ref C) && Value.builtin "BaseException.__getattribute__" == Value.builtin "object.__getattribute__")=false:=by rw [hx2];rfl
 have L1:=PySem.W.looks_findIn (M:=model prog w) X c.ga
 have L2:=PySem.W.looks_findIn (M:=model prog w) X c.gt
 repeat (any_goals (first | assumption | (with_reducible refine wpAny_loadPart_at hx ?_;rw [hc]) | with_reducible refine L1.at ?_ | with_reducible refine L2.at ?_ | wp_step))
 refine codeAny_call_builtin PySem.F.excAttr_ValueError.ga.plain F.entry_bexc_ga (zko c X hx hc (zjP c X hx hc ?_))
 repeat (any_goals (first | assumption | wp_step))
theorem zme {Q:Option Value→Shared→Prop} (c:XC K C) (X:K.In h) (hx:h.get? a=some o) (hc:o.cls = .ref C) (hq:Q (some (.ref C)) ⟨h,g,d,t + 1,os⟩) :
  wpAny (model prog w) A (getAttr? (.ref a) "__class__") Q E ⟨h,g,d,t,os⟩:=by
 unfold getAttr? getAttrBy?
 repeat (any_goals (first | assumption | with_reducible apply zoN c X hx hc | wp_step))
end
end L2
namespace L2
open PySem PySem.Spec PyProof.Rows
section
variable {K:PySem.W.Frag} {C D x:Addr} {oe:Obj} {b:Bool}
theorem XC.get (c:XC K C):∃ cd,PySem.W.clsIn K C=some cd∧cd.mro.isEmpty=false∧cd.mro.contains (.ref C)=true∧PySem.W.typeIn K (.ref C)=some (.type "type"):=by
 obtain ⟨nm,q,N,bs,bm,hdct,sn,sub,ab,col,dd,k0,k1,k2,k3,k5,e⟩:=c.ob
 refine ⟨{ name:=nm,bases:=bs,mro := .ref C :: bm,ns:=N,qualname:=q,hasDict:=hdct,slotNames:=sn,subclasses:=sub,abstract:=ab,collection:=col,hasDel:=false },?_,rfl,?_,?_⟩
 ·unfold PySem.W.clsIn
  rw [e]
 ·simp
 ·show (K.lookup C).map (·.cls)=_
  rw [e]
  rfl
theorem XC.isType (c:XC K C) {M:Model} {h:Heap} (X:K.In h):PySem.W.Looks M h (PySem.isType (.ref C)) true:=by
 obtain ⟨nm,q,N,bs,bm,hdct,sn,sub,ab,col,dd,k0,k1,k2,k3,k5,e⟩:=c.ob
 intro A' Q' E' s' k q
 unfold PySem.isType loadHead
 exact wpAny_bind (wpAny_loadPart (k _ _ (X _ _ e)) (wpAny_pure q))
theorem zjH (c:XC K D) (hc:oe.cls = .ref D):PySem.W.KitX K (.ref x) (.ref D) (fun h=>h.get? x=some oe) where
 ty:=fun M h _ p=>hc ▸ (PySem.W.Looks.ld p).andThen .now
 it:=fun _ _ X _=>c.isType X
 ne:=fun h tp dd its n sl X htp=>by
  obtain ⟨nm,q,N,bs,bm,hdct,sn,sub,ab,col,dd,k0,k1,k2,k3,k5,e⟩:=c.ob
  refine Bool.eq_false_iff.mpr fun q=>?_
  have e':D=tp:=Value.ref.inj (beq_iff_eq.mp q)
  subst e'
  have z:=Option.some.inj ((X _ _ e).symm.trans htp)
  have z':=congrArg Obj.data z
  cases z'
 ca:=fun {_ _ _ _ _ s} X p k=>by obtain ⟨h,g,d,t,os⟩:=s;exact zme c X p hc k
theorem zlB (cD:XC K D) (cC:XC K C) (s:PySem.W.subIn K (.ref D) (.ref C)=some b):PySem.W.kitOne K (.ref D) (.ref C)=some b:=by
 unfold PySem.W.kitOne
 split
 ·rename_i q
  have e:D=C:=Value.ref.inj (beq_iff_eq.mp q)
  subst e
  obtain ⟨cd,h1,h2,h3,_⟩:=cD.get
  change PySem.W.mroIn K D (.ref D)=some b at s
  unfold PySem.W.mroIn at s
  rw [h1] at s
  simp only [Option.bind_some,h2,h3] at s
  simpa using s
 ·obtain ⟨cd,h1,_,_,h4⟩:=cC.get
  unfold PySem.W.kitCls
  simp only [h1,h4]
  exact s
theorem zjW {T:String} (s:PySem.W.subIn K (.ref D) (.type T)=some b) (hT:PySem.W.kitMeta T=true):PySem.W.kitOne K (.ref D) (.type T)=some b:=by
 unfold PySem.W.kitOne
 rw [if_neg (by simp)]
 unfold PySem.W.kitCls
 simp only [hT]
 exact s
theorem zhQ:PySem.W.kitMeta "ValueError" = true:=by kernel_rfl
end
def Cx.zby (X:Cx) (x:Addr) (oe:Obj):Cx:={ X with A:=X.A.mark (some (.ref x)),calm:=false,pn:=X.pn ++ [(x,oe)],xe:=fun _ _=>False }
theorem Cx.Ok.zby {X:Cx} (ok:X.Ok) (x:Addr) (oe:Obj):(X.zby x oe).Ok :=
 ⟨ok.mod,ok.kind,ok.glob,ok.blt,ok.above,ok.inj,ok.has,ok.cab,fun h=>Bool.noConfusion h,ok.frames,ok.stk,ok.exf,ok.bs,ok.bsz,ok.noex,ok.exfs,ok.funs,ok.frf⟩
section
variable {X:Cx} {σ:St} {H:Hp} {s:Shared} {x:Addr} {oe:Obj}
theorem Inv.zby (I:Inv X [] σ H s) (p:s.heap.get? x=some oe∧H x=none∧x ≠ X.env.locals∧x ∉ X.fs∧∀ v,oe.data ≠ .cell v):Inv (X.zby x oe) [] σ H s :=
 ⟨I.ok.zby x oe,I.os,I.bare,I.base,I.loc,I.cell,I.free,I.freeC,fun q hq=>by
  have hq:q ∈ (X.pn ++ [(x,oe)]) ++ []:=hq
  rw [List.append_nil] at hq
  rcases List.mem_append.mp hq with z | z
  ·exact I.pin q (List.mem_append_left _ z)
  ·rw [List.mem_singleton.mp z];exact p,I.hok,I.len⟩
theorem Inv.uncaught (ok:X.Ok) (I:Inv (X.zby x oe) [] σ H s):Inv X [] σ H s :=
 ⟨ok,I.os,I.bare,I.base,I.loc,I.cell,I.free,I.freeC,fun q hq=>I.pin q (by
  rw [List.append_nil] at hq ⊢
  exact List.mem_append_left _ hq),I.hok,I.len⟩
theorem ExAt.pin {cls:Value} {dx:Option Addr} {tb:Bool} (I:Inv X [] σ H s) (t:Top1 X) (e:ExAt X.s₀.heap s.heap H x cls dx tb):∃ oe vs,oe.cls=cls∧oe.dict=dx∧oe.data = .fields vs∧s.heap.get? x=some oe∧H x=none∧x ≠ X.env.locals∧x ∉ X.fs∧∀ v,oe.data ≠ .cell v:=by
 obtain ⟨_,hxH,oe,vs,he,hc,hdx,hd,_⟩:=e
 have nf:=ExAt.zkv I he hd
 exact ⟨oe,vs,hc,hdx,hd,he,hxH,fun z=>nf (t.mem.mpr (.inl z)),fun z=>nf (t.mem.mpr (.inr z)),fun v z=>by rw [hd] at z;cases z⟩
def rIsX (K:PySem.W.Frag) (x:Addr) (cls:Value):List V→Hp→VK→Prop:=fun xs H Q=>∃ D,cls = .ref D∧XC K D ∧
 ((∃ C b,xs=[.ref x, .ref C]∧PySem.W.kitOne K cls (.ref C)=some b∧Q (.bl b) H)∨(∃ T b,xs=[.ref x, .ty T]∧PySem.W.kitOne K cls (.type T)=some b∧Q (.bl b) H) ∨
  ∃ (p:Addr) (cs:List Addr) (b:Bool),xs=[.ref x, .ref p]∧H p=some (.tup (cs.map V.ref))∧PySem.W.kitAny K cls (cs.map Value.ref)=some b∧Q (.bl b) H)
theorem zgo:∀ {cs:List Addr} {us:List Value},Vals (cs.map V.ref) us→us=cs.map Value.ref
 | [],_, .nil=>rfl
 | _ :: _,_, .cons r t=>by rw [List.map_cons,← zgo t];congr
theorem zjL (hp:(x,oe) ∈ X.pn):zeh X (.builtin "isinstance") (rIsX X.K x oe.cls):=by
 intro pins s σ H xs us Q I r h
 obtain ⟨D,hc,c,h⟩:=h
 have he:=(I.pin _ (List.mem_append_left _ hp)).1
 have Z:=zjH (x:=x) c hc
 rw [hc] at h
 rcases h with ⟨C,b,rfl,e,q⟩ | ⟨T,b,rfl,e,q⟩ | ⟨p,cs,b,rfl,hpt,e,q⟩
 ·obtain ⟨u,v,rfl,ru,rv⟩:=vals2 r
  obtain rfl:u = .ref x:=ru
  obtain rfl:v = .ref C:=rv
  exact PySem.W.kia_one Z I.kIn he e (by intro z;cases z) fun tk=>⟨.bl b,H,I.tok tk,rfl,q⟩
 ·obtain ⟨u,v,rfl,ru,rv⟩:=vals2 r
  obtain rfl:u = .ref x:=ru
  obtain rfl:v = .type T:=rv
  exact PySem.W.kia_one Z I.kIn he e (by intro z;cases z) fun tk=>⟨.bl b,H,I.tok tk,rfl,q⟩
 ·obtain ⟨u,v,rfl,ru,rv⟩:=vals2 r
  obtain rfl:u = .ref x:=ru
  obtain rfl:v = .ref p:=rv
  obtain ⟨_,its,vi,⟨o,ho,hcl,n,hdt⟩⟩:=I.hok p _ hpt
  obtain ⟨oc,od,odt,osl⟩:=o
  simp only at hcl hdt
  subst hcl hdt
  rw [zgo vi] at ho
  exact PySem.W.kia_tup Z I.kIn he ho e (by intro z;cases z) fun tk=>⟨.bl b,H,I.tok tk,rfl,q⟩
end
section
variable {M:Model} {A:Around} {E:Value→Shared→Prop} {h:Heap} {g:Array GenState} {d:Drawn} {t:Nat} {os:OsState} {e:Addr} {oe:Obj} {K:PySem.W.Frag} {C D:Addr} {b:Bool}
theorem zmK {Q:Bool→Shared→Prop} (cC:XC K C) (X:K.In h) (he:h.get? e=some oe) (hc:oe.cls = .ref D) (sb:PySem.W.subIn K (.ref D) (.ref C)=some b) (hq:Q b ⟨h,g,d,t,os⟩) :
  wpAny M A (excMatches (.ref e) (.ref C)) Q E ⟨h,g,d,t,os⟩:=by
 obtain ⟨nm,q,N,bs,bm,hdct,sn,sub,ab,col,dd,k0,k1,k2,k3,k5,hC0⟩:=cC.ob
 have hC:=X _ _ hC0
 have L:=PySem.W.looks_subIn (M:=M) X sb
 have LB:=PySem.W.looks_subIn (M:=M) X cC.be
 have f:=tc_notTuple
 unfold excMatches
 repeat (first | (with_reducible refine wpAny_loadPart_at he ?_;rw [hc]) | with_reducible refine wpAny_loadPart_at hC ?_ | with_reducible refine LB.at ?_ | with_reducible refine L.at ?_ | wp_step)
 cases b <;> (wp_walk;exact hq)
end
theorem zfJ {X:Cx} {M:Model} {A:Around} {E:Value→Shared→Prop} {σ:St} {H:Hp} {s:Shared} {i:Nat} {n:Str} {pos:Pos} {Q:Unit→Shared→Prop} (I:Inv X [] σ H s) (hN:X.N.Nodup) (hi:X.N[i]? = some n) (hl:X.env.scope.names.lookup n=some .local)
  (h:∀ s',Inv X [] (σ.set i none) H s'→Q () s'):wpAny M A (do bindName X.env n .none;unbindBehindTheSuite X.env n pos) Q E s:=by
 refine wpAny_bind (wpAny_bindName (zeq (v := .non) I hN hi (.inl hl) rfl (fun s1 I1=>?_) (.inr hl)))
 unfold unbindBehindTheSuite
 refine wpAny_onRaise ?_
 have hcls:(X.env.scope.kind == .class || (X.env.scope.kind == .module && X.env.locals != X.env.globals))=false:=by rw [I.ok.kind];rfl
 obtain ⟨m,hn,hlo⟩:=id I1.loc
 have hiσ:i < σ.length:=by rw [I.len];exact (List.getElem?_eq_some_iff.mp hi).1
 have hv:m n=some .none:=by
  obtain ⟨u,ru,l⟩:=hlo i n .non hi (by rw [List.getElem?_set_self hiσ]) (.inl hl)
  obtain rfl:u=Value.none:=ru
  rcases l with ⟨_,l⟩ | ⟨k,_⟩
  ·exact l
  ·have hl':X.env.kindOf n=some .local:=hl
   rcases k with k | k <;> (rw [hl'] at k;cases k)
 refine wpAny_unbindName_local hl hn hv hcls fun h' u hn' hs=>?_
 have cne:=I1.cne
 obtain ⟨oL,_,_,hoL,_⟩:=id hn
 refine h _ ⟨I1.ok,I1.os,I1.bare,⟨fun b o e nn hb hx=>?_,fun b o e nn hb hx=>?_,I1.base.free,fun b o e hx=>?_,I1.base.tups,I1.base.frzs,I1.base.tbls⟩,⟨_,hn',fun j y v' e1 e2 e3=>?_⟩,fun y c e=>?_,I1.free,I1.freeC,fun p hp=>?_,fun b ob e=>?_,by simpa using I.len⟩
 ·exact (hs.2 b (Nat.ne_of_lt (Nat.lt_of_lt_of_le (Heap.lt_size e) I1.ok.above))).trans (I1.base.keep b o e nn hb hx)
 ·obtain ⟨sl,e1⟩:=I1.base.slot b o e nn hb hx
  exact ⟨sl,(hs.2 b (Nat.ne_of_lt (Nat.lt_of_lt_of_le (Heap.lt_size e) I1.ok.above))).trans e1⟩
 ·obtain ⟨o',e1⟩:=I1.base.there b o e hx
  exact ⟨o',(hs.2 b (Nat.ne_of_lt (Nat.lt_of_lt_of_le (Heap.lt_size e) I1.ok.above))).trans e1⟩
 ·have hj:j ≠ i:=fun z=>by
   subst z
   rw [List.getElem?_set_self hiσ] at e2
   cases e2
  rw [List.getElem?_set_ne (Ne.symm hj)] at e2
  obtain ⟨u',r',q⟩:=hlo j y v' e1 (by rw [List.getElem?_set_ne (Ne.symm hj)];exact e2) e3
  refine ⟨u',r',?_⟩
  rcases q with ⟨k,e⟩ | ⟨k,c,e,z⟩
  ·refine .inl ⟨k,?_⟩
   have:y ≠ n:=fun e=>hj (zfQ hN e1 (e ▸ hi))
   simp [this,e]
  ·exact .inr ⟨k,c,e,z.sameBut hs (cne y c e)⟩
 ·obtain ⟨w',z⟩:=I1.cell y c e
  exact ⟨w',z.sameBut hs (cne y c e)⟩
 ·obtain ⟨e,nn,ne,nf,d⟩:=I1.pin p hp
  exact ⟨(hs.2 p.1 ne).trans e,nn,ne,nf,d⟩
 ·refine (I1.hok b ob e).stay (fun c w' hc q=>(hs.2 c ?_).trans q) (fun _ q=>q) fun _ _ q=>q
  rintro rfl
  have hfree:=I1.free
  rcases hc with rfl | hc
  ·rw [hfree] at e;cases e
  ·rw [hfree] at hc;cases hc
def PS0 (X:Cx) (st:Stmt) (t:TS):Prop:=∀ (s:Shared) (σ:St) (H:Hp) (D:Ends),Inv X [] σ H s→t D σ H→wpAny (model X.prog X.w) X.A (exec st X.env) (SP X [] D) X.xe s
def PSs0 (X:Cx) (st:List Stmt) (t:TS):Prop:=∀ (s:Shared) (σ:St) (H:Hp) (D:Ends),Inv X [] σ H s→t D σ H→wpAny (model X.prog X.w) X.A (execs st X.env) (SP X [] D) X.xe s
theorem PS.ps0 {X:Cx} {st:Stmt} {t:TS} (h:PS X st t):PS0 X st t:=h []
theorem PSs.ps0 {X:Cx} {st:List Stmt} {t:TS} (h:PSs X st t):PSs0 X st t:=h []
theorem zji {X:Cx} {st:Stmt} {rest:List Stmt} {t u:TS} (h1:PS0 X st t) (h2:PSs0 X rest u):PSs0 X (st :: rest) (tSeq t u):=by
 intro s σ H D I h
 refine wpAny_execs_cons (thn (h1 s σ H { D with nx:=u D } I h) fun f s1 q=>?_)
 cases f with
 | next =>
  obtain ⟨σ',H',I',q⟩:=q
  exact h2 s1 σ' H' D I' q
 | brk=>exact q
 | cont=>exact q
 | ret u=>exact q
end L2
namespace L2
open PySem PySem.Spec PyProof.Rows
abbrev TH:=Addr→Value→Option Addr→TS
def PH (X:Cx) (hs:List ExceptHandler) (th:TH):Prop:=∀ (s:Shared) (σ:St) (H:Hp) (D:Ends) (x:Addr) (cls:Value) (dx:Option Addr),Inv X [] σ H s→ExAt X.s₀.heap s.heap H x cls dx true→th x cls dx D σ H →
 wpAny (model X.prog X.w) X.A (handleBy (.ref x) X.env hs) (SP X [] D) X.xe s
def tNoH:TH:=fun _ _ _ _ _ _=>False
theorem znh {X:Cx}:PH X [] tNoH:=fun _ _ _ _ _ _ _ _ _ h=>h.elim
def Ends.drop (D:Ends) (i:Nat):Ends:=⟨fun σ H=>D.nx (σ.set i none) H,D.rt,fun σ H=>D.bk (σ.set i none) H,fun σ H=>D.ct (σ.set i none) H⟩
def tH (K:PySem.W.Frag) (C:Addr) (i:Nat) (ts th:TH):TH:=fun x cls dx D σ H=>∃ E b,cls = .ref E∧PySem.W.subIn K (.ref E) (.ref C)=some b ∧
 if b=true then ts x cls dx (D.drop i) (σ.set i (some (.ref x))) H else th x cls dx D σ H
section
variable {X:Cx} {C:Addr} {i:Nat} {n y:Str} {np pos:Pos} {b₀:Stmt} {suite:List Stmt} {rest:List ExceptHandler} {ts th:TH}
theorem zol (t:Top1 X) (c:XC X.K C) (hg:Gl X y) (hm:X.mg y=some (.ref C)) (hN:X.N.Nodup) (hi:X.N[i]? = some n) (hl:X.env.scope.names.lookup n=some .local) (hs:∀ x oe,PSs (X.zby x oe) (b₀ :: suite) (ts x oe.cls oe.dict)) (hr:PH X rest th)
  (hdb:(y == ("__debug__" : Str))=false:=by decide):PH X (.ExceptHandler (some (.Name y np)) (some n) (b₀ :: suite) pos :: rest) (tH X.K C i ts th):=by
 intro s σ H D x cls dx I ex h
 obtain ⟨E,b,rfl,sb,h⟩:=h
 obtain ⟨oe,vs,hc,hdx,hd,he,hp⟩:=ex.pin I t
 have Ic:=I.zby (x:=x) (oe:=oe) ⟨he,hp⟩
 refine wpAny_handleBy_cons (codeAny_handlers_test (zdG (X:=X.zby x oe) (s:=s) Ic hg hm ?_ hdb)) (by intro q;cases q)
 obtain ⟨hh,g,d,tk,os⟩:=s
 refine zmK c I.kIn he hc sb ?_
 cases b with
 | false =>
  exact hr _ σ H D x _ dx I ex (by simpa using h)
 | true =>
  rw [if_pos rfl] at h
  refine codeAny_handlers_suite_as (zdu I t ex fun h1 I1 ex1=>?_)
  obtain ⟨oe1,vs1,hc1,hdx1,hd1,he1,hp1⟩:=ex1.pin I1 t
  have Ic1:=I1.zby (x:=x) (oe:=oe1) ⟨he1,hp1⟩
  refine zeq (X:=X.zby x oe1) (v := .ref x) Ic1 hN hi (.inl hl) rfl (fun s2 I2=>?_) (.inr hl)
  rw [← hc1,← hdx1] at h
  refine wpAny_mono (hs x oe1 [] s2 (σ.set i (some (.ref x))) H (D.drop i) I2 h) (fun f s3 q=>?_) fun _ _ z=>False.elim z
  cases f with
  | next =>
   obtain ⟨σ',H',I',q⟩:=q
   exact zfJ (I'.uncaught I.ok) hN hi hl fun s' I''=>⟨_,H',I'',q⟩
  | brk =>
   obtain ⟨σ',H',I',q⟩:=q
   exact zfJ (I'.uncaught I.ok) hN hi hl fun s' I''=>⟨_,H',I'',q⟩
  | cont =>
   obtain ⟨σ',H',I',q⟩:=q
   exact zfJ (I'.uncaught I.ok) hN hi hl fun s' I''=>⟨_,H',I'',q⟩
  | ret u =>
   obtain ⟨v,σ',H',I',r,q⟩:=q
   exact zfJ (I'.uncaught I.ok) hN hi hl fun s' I''=>⟨v,_,H',I'',r,q⟩
def tTry (tb:WX→TS) (th:TH):TS:=fun D σ H=>tb (fun σ' cls dx H'=>∀ x,H' x=none→th x cls dx D σ' H') D σ H
theorem zmL {h0:ExceptHandler} {hs:List ExceptHandler} {body:List Stmt} {tb:WX→TS} (t:Top1 X) (hx:X.ex=[]) (hb:∀ W,PSs0 (X.wish (XE X W)) body (tb W)) (hh:PH X (h0 :: hs) th):PS0 X (.Try body (h0 :: hs) [] [] pos) (tTry tb th):=by
 intro s σ H D I h
 refine wpAny_Try_except (wpAny_mono (hb _ s σ H D (I.wish _) h) (fun f s1 q=>?_) fun e s1 q=>?_)
 ·have q:=q.zck
  cases f with
  | next =>
   obtain ⟨σ',H',I',q⟩:=q
   exact wpAny_execs_nil ⟨σ',H',I',q⟩
  | brk=>exact q
  | cont=>exact q
  | ret u=>exact q
 ·obtain ⟨σ',H',x,cls,dx,rfl,I',ex,q⟩:=q
  refine zgR I' t ex fun h1 I1 e1=>zdu I1 t e1 fun h2 I2 e2=>?_
  exact hh _ σ' H' D x cls dx I2 e2 (q x e2.2.1)
end
section
variable {P:Program} {w:World} {K:PySem.W.Frag} {mg:Str→Option Value} {base:Heap}
theorem znw {CX:CXT} {k:Nat} {f:Addr} {name qual:Str} {params:Arguments} {body:List Stmt} {scope:Scope} {dV kV doc pm cdv ct oc:Value} {an od:Option Addr}
  {osl:Array (Option Value)} {N ps:List Str} {sp:Sp} (lk:K.lookup f=some ⟨oc,od, .func (PySem.W.fnOf name qual params body scope dV kV doc pm an cdv ct),osl⟩) (hcd:PySem.W.codeIn K cdv qual=true) (S:zat N ps scope)
  (len:∀ vs H Q E,sp vs H Q E→vs.length=ps.length)
  (hbody:∀ (A:Around) (outer:List Env) (s:Shared) (H:Hp) (vs:List V) (Q:VK) (E:XK),Room k (A.deeper (envOfC qual scope s.heap.objs.size f cdv))→sp vs H Q E →
   ∃ t,PSs0 (cxOf CX P w K mg base N qual scope f cdv A outer s H E) body t∧t { nx:=fun _ H'=>Q .non H',rt:=Q } (start N vs) H) :
  FnOk P w K mg base CX (k + 1) f (PySem.W.fnOf name qual params body scope dV kV doc pm an cdv ct) ps sp:=by
 refine ⟨len,fun A outer s H args us vs Q E hr e0 hb r hsp=>?_⟩
 have hl:=len _ _ _ _ hsp
 have KX:K.In s.heap:=e0.mod.kin.keeps fun b o e=>(e0.bs b o e).1
 have lim:s.heap.NoLimit:=e0.mod.nolimit.keeps fun b o e=>(e0.bs b o e).1
 have hkind:∀ y ∈ ps.zip us,scope.names.lookup y.1=some .local∨(scope.names.lookup y.1=some .cell∧((cellsFrom (s.heap.objs.size + 1) scope.names []).lookup y.1).isSome=true):=fun ⟨n,v⟩ hy=>by
  rcases S.par n (List.of_mem_zip hy).1 with q | q
  ·exact .inl q
  ·exact .inr ⟨q,PySem.W.cellsFrom_some _ _ _ (.inl q)⟩
 refine codeAny_call_function hr.depth (KX _ _ lk) rfl S.co S.gen rfl (PySem.W.codeRec_of KX hcd) (hb _ _ _ _ ?_)
 refine wpAny_newFunctionEnv_cells S.kind hkind fun env he s1 x=>?_
 subst he
 refine ⟨lim.keeps x.toInCall.keep,codeAny_func ?_⟩
 obtain ⟨t,ht,hq⟩:=hbody A outer s H vs Q E (hr.deeper _) hsp
 have I:Inv (cxOf CX P w K mg base N qual scope f cdv A outer s H E) [] (start N vs) H s1:=zew S hr.hd e0 hl r x
 refine wpAny_mono (ht s1 (start N vs) H _ I hq) (fun fl s' hs=>?_) fun e s' hs=>hs
 have fin:∀ {σ':St} {H':Hp} {v:V} {u:Value},Inv (cxOf CX P w K mg base N qual scope f cdv A outer s H E) [] σ' H' s'→RelV v u→Q v H'→CE outer P w H s Q u s' :=
  fun {σ' H' v u} J rv q=>⟨v,H',J.os,J.bare,J.base,J.hok,rv,q⟩
 cases fl with
 | ret u =>
  obtain ⟨v,σ',H',J,rv,q⟩:=hs
  exact fin J rv q
 | next =>
  obtain ⟨σ',H',J,q⟩:=hs
  exact fin (v:=V.non) (u:=Value.none) J rfl q
 | brk =>
  obtain ⟨_,_,_,q⟩:=hs
  exact False.elim q
 | cont =>
  obtain ⟨_,_,_,q⟩:=hs
  exact False.elim q
theorem PSs0.nox {X:Cx} {st:List Stmt} {t:TS} (h:PSs0 X.nox st t):PSs0 X st t:=fun s σ H D I hw =>
 wpAny_mono (h s σ H D (I.wish _) hw) (fun _ _ q=>q.zck) fun _ _ z=>False.elim z
theorem Def.of0 {x:Str} {st:Stmt} {N ps:List Str} {k:Nat} {sp:Sp} (h:HasFn K mg x st) (S:zat N ps (zab st))
  (bind:∀ (kV doc pm:Value) (an:Option Addr) (cdv ct:Value) (us:List Value),us.length=ps.length→bindArgs (PySem.W.fnOf x x (zav st) (zaj st) (zab st) .none kV doc pm an cdv ct) ⟨us,[]⟩ = pure (ps.zip us))
  (len:∀ vs H Q E,sp vs H Q E→vs.length=ps.length)
  (hbody:∀ (f:Addr) (cdv:Value) (A:Around) (outer:List Env) (s:Shared) (H:Hp) (vs:List V) (Q:VK) (E:XK),Room k (A.deeper (envOfC x (zab st) s.heap.objs.size f cdv))→sp vs H Q E →
   ∃ t,PSs0 (cxOf CX0 P w K mg base N x (zab st) f cdv A outer s H E).nox (zaj st) t∧t { nx:=fun _ H'=>Q .non H',rt:=Q } (start N vs) H):Def P w K mg base x (k + 1) ps sp:=by
 obtain ⟨f,fd,hm,F⟩:=h.ex
 refine ⟨f,fd,?_,hm,F.kp,F.binds bind⟩
 obtain ⟨oc,od,kV,doc,pm,an,cdv,ct,osl,rfl,lk,hcd⟩:=F.ex
 refine znw lk hcd S len fun A outer s H vs Q E hr hsp=>?_
 obtain ⟨t,h,q⟩:=hbody f cdv A outer s H vs Q E hr hsp
 exact ⟨t,h.nox,q⟩
end
end L2
namespace L2
open PySem PySem.Spec PyProof.Rows
def zmG (scope sc:Scope) (N:List Str) (js:List Nat):Bool :=
 scope.kind == .function && (scope.names.all fun y=>y.2 != .cell && (y.2 != .local || scope.names.lookup y.1 == some .local) && (y.2 != .free || (sc.names.lookup y.1 == some .cell || sc.names.lookup y.1 == some .free))) &&
 js.all fun j=>match N[j]? with
  | some x=>scope.names.lookup x == some .free
  | none=>false
theorem LcOk.of {X:Cx} {scope:Scope} {ls:List Str} {js:List Nat} (sc:Scope) (N:List Str) (hsc:X.env.scope=sc) (hN:X.N=N) (ok:zmG scope sc N js=true):LcOk X scope ls js:=by
 unfold zmG at ok
 rw [Bool.and_eq_true,Bool.and_eq_true] at ok
 obtain ⟨⟨h1,h2⟩,h3⟩:=ok
 rw [List.all_eq_true] at h2 h3
 refine ⟨by simpa using h1,fun y hy=>?_,fun y hy hl=>?_,fun y hy hf=>?_,fun j hj=>?_⟩
 ·have q:=h2 y hy
  rw [Bool.and_eq_true,Bool.and_eq_true] at q
  simpa using q.1.1
 ·have q:=h2 y hy
  rw [Bool.and_eq_true,Bool.and_eq_true] at q
  simpa [hl] using q.1.2
 ·have q:=h2 y hy
  rw [Bool.and_eq_true,Bool.and_eq_true] at q
  have q2:=q.2
  rw [hf] at q2
  unfold Env.kindOf
  rw [hsc]
  simpa using q2
 ·have q:=h3 j hj
  rw [hN]
  cases e:N[j]? with
  | none=>rw [e] at q;cases q
  | some x=>rw [e] at q;exact ⟨x,rfl,by simpa using q⟩
theorem Kept.same {l:Addr} {H H':Hp} (e:Kept l H H') (hl:H l=none):Same H H':=fun b o h=>e b o (zaO h hl) h
end L2
namespace L2
open PySem PySem.Spec PyProof.Rows
end L2
namespace L2
open PySem PySem.Spec PyProof.Rows
section
variable {X:Cx}
end
end L2
namespace L2
open PySem PySem.Spec PyProof.Rows
section
variable {X:Cx}
end
theorem Rows.take {K:PySem.W.Frag} {H:Hp}:∀ {xs:List V} {rs:List (List Int)} (k:Nat),Rows K H xs rs→Rows K H (xs.take k) (rs.take k)
 | _,_,0,_ => .nil
 | _,_,_ + 1, .nil => .nil
 | _,_,k + 1, .cons q t => .cons q (Rows.take k t)
theorem Rows.append {K:PySem.W.Frag} {H:Hp}:∀ {xs ys:List V} {rs qs:List (List Int)},Rows K H xs rs→Rows K H ys qs→Rows K H (xs ++ ys) (rs ++ qs)
 | _,_,_,_, .nil,h=>h
 | _,_,_,_, .cons q t,h => .cons q (Rows.append t h)
end L2
namespace V2
open PySem PySem.Spec PyProof.Rows L2
inductive A where
 | int (i:Int) | bl (b:Bool) | str (x:Str) | non | ty (n:String) | adr (p:Addr) | exn (p d:Addr) (f:Str) (i:Int) | gl (x:Str) | scr (ns:List Int)
 | tup (ds:List A) | lst (ds:List A) | cel (k:Nat)
inductive Fd where
 | val (a:A) | lst (ds:List A) | dct (kvs:List (Key × A))
@[simp] def Fd.own:Fd→Bool
 | .val _=>false
 | _=>true
inductive Cell where
 | lst (ds:List A) | dct (kvs:List (Key × A)) | ins (cls:Str) (fs:List (Str × Fd)) | tab (x:Str) (pos:Pos) (qual:Str) | dead
@[simp] def Cell.noOwn:Cell→Bool
 | .ins _ fs=>fs.all fun p=>!p.2.own
 | _=>true
structure Exc where
 cls:Str
 fs:List (Str × A)
inductive Rs (α:Type) where
 | ok (a:α) | exc (x:Exc)
abbrev Sto:=List Cell
abbrev Ev:=List (Option A)
abbrev Mo (α:Type):=Sto→Option (Rs α × Sto)
@[simp] def ret {α:Type} (a:α):Mo α:=fun Ω=>some (.ok a,Ω)
@[simp] def mb {α β:Type} (m:Mo α) (k:α→Mo β):Mo β:=fun Ω =>
 match m Ω with
 | some (.ok a,Ω1)=>k a Ω1
 | some (.exc x,Ω1)=>some (.exc x,Ω1)
 | none=>none
@[simp] def stuck {α:Type}:Mo α:=fun _=>none
@[simp] def need {α:Type} (o:Option α):Mo α:=fun Ω=>o.map fun a=>(.ok a,Ω)
@[simp] def chk (p:Prop) [Decidable p] : Mo Unit:=fun Ω=>if p then some (.ok (),Ω) else none
mutual
def Den (K:PySem.W.Frag) (G:Hp) (ι:List Addr):V→A→Prop
 | v, .int j=>v = .int j
 | v, .bl b=>v = .bl b
 | v, .str x=>v = .str x
 | v, .non=>v = .non
 | v, .ty n=>v = .ty n
 | v, .adr p=>v = .ref p
 | v, .exn p d f i=>v = .ref p∧G d=some (.xd [(f, .int i)])
 | v, .gl x=>∃ C,PySem.W.nsIn K mainGlobals x=some (some (.ref C))∧v = .ref C
 | v, .scr ns=>∃ a,v = .ref a∧SqL K G a (ns.map V.int)
 | v, .tup ds=>∃ a xs,v = .ref a∧G a=some (.tup xs)∧DenL K G ι xs ds
 | v, .lst ds=>∃ a xs,v = .ref a∧G a=some (.lst xs)∧DenL K G ι xs ds
 | v, .cel k=>∃ a,v = .ref a∧ι[k]? = some a
def DenL (K:PySem.W.Frag) (G:Hp) (ι:List Addr):List V→List A→Prop
 | xs,[]=>xs=[]
 | xs,d :: ds=>∃ x r,xs=x :: r∧Den K G ι x d∧DenL K G ι r ds
end
structure Ext (G:Hp) (ι:List Addr) (G':Hp) (ι':List Addr):Prop where
 same:Same G G'
 pre:∀ (k:Nat) (a:Addr),ι[k]? = some a→ι'[k]? = some a
theorem Ext.refl (G:Hp) (ι:List Addr):Ext G ι G ι:=⟨Same.refl _,fun _ _ h=>h⟩
theorem Ext.trans {G G1 G2:Hp} {ι ι1 ι2:List Addr} (a:Ext G ι G1 ι1) (b:Ext G1 ι1 G2 ι2):Ext G ι G2 ι2:=⟨a.same.trans b.same,fun k x h=>b.pre k x (a.pre k x h)⟩
section
variable {K:PySem.W.Frag} {G G':Hp} {ι ι':List Addr}
mutual
theorem Den.ext (e:Ext G ι G' ι'):∀ {v:V} {d:A},Den K G ι v d→Den K G' ι' v d
 | _, .int _,h=>by simpa only [Den] using h
 | _, .bl _,h=>by simpa only [Den] using h
 | _, .str _,h=>by simpa only [Den] using h
 | _, .non,h=>by simpa only [Den] using h
 | _, .ty _,h=>by simpa only [Den] using h
 | _, .adr _,h=>by simpa only [Den] using h
 | _, .exn _ _ _ _,h=>by
  simp only [Den] at h ⊢
  exact ⟨h.1,e.same _ _ h.2⟩
 | _, .gl _,h=>by simpa only [Den] using h
 | _, .scr _,h=>by
  simp only [Den] at h ⊢
  obtain ⟨a,h1,h2⟩:=h
  exact ⟨a,h1,e.same.seq h2⟩
 | _, .tup ds,h=>by
  simp only [Den] at h ⊢
  obtain ⟨a,xs,h1,h2,h3⟩:=h
  exact ⟨a,xs,h1,e.same _ _ h2,DenL.ext e h3⟩
 | _, .lst ds,h=>by
  simp only [Den] at h ⊢
  obtain ⟨a,xs,h1,h2,h3⟩:=h
  exact ⟨a,xs,h1,e.same _ _ h2,DenL.ext e h3⟩
 | _, .cel k,h=>by
  simp only [Den] at h ⊢
  obtain ⟨a,h1,h2⟩:=h
  exact ⟨a,h1,e.pre _ _ h2⟩
theorem DenL.ext (e:Ext G ι G' ι'):∀ {xs:List V} {ds:List A},DenL K G ι xs ds→DenL K G' ι' xs ds
 | _,[],h=>by simpa only [DenL] using h
 | _,d :: ds,h=>by
  simp only [DenL] at h ⊢
  obtain ⟨x,r,h1,h2,h3⟩:=h
  exact ⟨x,r,h1,Den.ext e h2,DenL.ext e h3⟩
end
theorem zbP {xs:List V}:DenL K G ι xs []↔xs=[]:=by simp only [DenL]
theorem DenL.length:∀ {xs:List V} {ds:List A},DenL K G ι xs ds→xs.length=ds.length
 | _,[],h=>by simp only [DenL] at h;subst h;rfl
 | _,d :: ds,h=>by
  simp only [DenL] at h
  obtain ⟨x,r,rfl,h2,h3⟩:=h
  simp only [List.length_cons,DenL.length h3]
theorem DenL.nil:DenL K G ι [] []:=by simp only [DenL]
theorem DenL.cons {x:V} {xs:List V} {d:A} {ds:List A} (h:Den K G ι x d) (t:DenL K G ι xs ds):DenL K G ι (x :: xs) (d :: ds):=by
 simp only [DenL];exact ⟨x,xs,rfl,h,t⟩
theorem DenL.zch {xs:List V} {d:A} {ds:List A} (h:DenL K G ι xs (d :: ds)):∃ x r,xs=x :: r∧Den K G ι x d∧DenL K G ι r ds:=by simpa only [DenL] using h
theorem DenL.get:∀ {xs:List V} {ds:List A} {i:Nat} {d:A},DenL K G ι xs ds→ds[i]? = some d→∃ x,xs[i]? = some x∧Den K G ι x d
 | _,[],_,_,_,e=>by simp at e
 | _,_ :: _,0,_,h,e=>by
  obtain ⟨x,r,rfl,h2,h3⟩:=h.zch
  simp at e;subst e;exact ⟨x,rfl,h2⟩
 | _,_ :: _,i + 1,_,h,e=>by
  obtain ⟨x,r,rfl,h2,h3⟩:=h.zch
  simp at e
  obtain ⟨y,q1,q2⟩:=DenL.get h3 e
  exact ⟨y,by simpa using q1,q2⟩
theorem DenL.append:∀ {xs ys:List V} {ds es:List A},DenL K G ι xs ds→DenL K G ι ys es→DenL K G ι (xs ++ ys) (ds ++ es)
 | _,_,[],_,h,t=>by rw [zbP] at h;subst h;exact t
 | _,_,d :: ds,_,h,t=>by
  obtain ⟨x,r,rfl,h2,h3⟩:=h.zch
  exact .cons h2 (DenL.append h3 t)
theorem DenL.take:∀ {xs:List V} {ds:List A} (n:Nat),DenL K G ι xs ds→DenL K G ι (xs.take n) (ds.take n)
 | _,_,0,_=>by simpa using DenL.nil
 | _,[],n + 1,h=>by rw [zbP] at h;subst h;exact DenL.nil
 | _,d :: ds,n + 1,h=>by
  obtain ⟨x,r,rfl,h2,h3⟩:=h.zch
  exact .cons h2 (DenL.take n h3)
theorem DenL.drop:∀ {xs:List V} {ds:List A} (n:Nat),DenL K G ι xs ds→DenL K G ι (xs.drop n) (ds.drop n)
 | _,_,0,h=>by simpa using h
 | _,[],n + 1,h=>by rw [zbP] at h;subst h;exact DenL.nil
 | _,d :: ds,n + 1,h=>by
  obtain ⟨x,r,rfl,h2,h3⟩:=h.zch
  exact DenL.drop n h3
theorem DenL.set {x:V} {d:A} (hx:Den K G ι x d):∀ {xs:List V} {ds:List A} (n:Nat),DenL K G ι xs ds→DenL K G ι (xs.set n x) (ds.set n d)
 | _,[],n,h=>by rw [zbP] at h;subst h;exact DenL.nil
 | _,e :: ds,0,h=>by
  obtain ⟨y,r,rfl,h2,h3⟩:=h.zch
  exact .cons hx h3
 | _,e :: ds,n + 1,h=>by
  obtain ⟨y,r,rfl,h2,h3⟩:=h.zch
  exact .cons h2 (DenL.set hx n h3)
theorem zge:∀ (ns:List Int),DenL K G ι (ns.map V.int) (ns.map A.int)
 | [] => .nil
 | n :: ns => .cons (by simp only [Den]) (zge ns)
end
def zom (K:PySem.W.Frag) (G H:Hp) (a:Addr) (x:Str) (pos:Pos) (qual:Str):Prop :=
 G a=none∧(∃ c,PySem.W.tabIn K x=some (c,a))∧∃ ps,H a=some (.tbl ps)∧TriplesOk ps.toList ∧
  (codeAmong pos ps.toList=none∨∃ c' oc vs t,codeAmong pos ps.toList=some (.ref c')∧G c'=some (.frz oc (.own 0))∧oc.data = .fields vs∧vs[1]? = some (.str qual t))
def FdOk (K:PySem.W.Frag) (G:Hp) (ι:List Addr) (H:Hp) (v:V):Fd→Prop
 | .val a=>Den K G ι v a
 | .lst ds=>∃ b xs,v = .ref b∧G b=none∧b ∉ ι∧H b=some (.lst xs)∧DenL K G ι xs ds
 | .dct kvs=>∃ b,∃ ws:List (Key × V),v = .ref b∧G b=none∧b ∉ ι∧H b=some (.dK ws)∧ws.map (·.1)=kvs.map (·.1)∧DenL K G ι (ws.map (·.2)) (kvs.map (·.2))
def zbV (K:PySem.W.Frag) (G:Hp) (ι:List Addr) (H:Hp):List (Str × V)→List (Str × Fd)→Prop
 | [],[]=>True
 | (f,v) :: ws,(g,d) :: fs=>f=g∧FdOk K G ι H v d∧zbV K G ι H ws fs
 | _,_=>False
def zcl (K:PySem.W.Frag) (G:Hp) (ι:List Addr) (H:Hp) (a:Addr):Cell→Prop
 | .lst ds=>G a=none∧∃ xs,H a=some (.lst xs)∧DenL K G ι xs ds
 | .dct kvs=>G a=none∧∃ ws:List (Key × V),H a=some (.dK ws)∧ws.map (·.1)=kvs.map (·.1)∧DenL K G ι (ws.map (·.2)) (kvs.map (·.2))
 | .ins cls fs=>G a=none∧∃ C dx,∃ ws:List (Str × V),PySem.W.nsIn K mainGlobals cls=some (some (.ref C))∧H a=some (.ins C dx ws)∧zbV K G ι H ws fs
 | .tab x pos qual=>zom K G H a x pos qual
 | .dead=>True
def zbS (H:Hp) (ι:List Addr) (Ω:Sto) (k i:Nat) (b:Addr):Prop:=∃ a cls fs C dx ws g h fd,ι[k]? = some a∧Ω[k]? = some (.ins cls fs)∧H a=some (.ins C dx ws)∧fs[i]? = some (g,fd)∧fd.own=true∧ws[i]? = some (h, .ref b)
structure Wd (K:PySem.W.Frag) (G:Hp) (ι:List Addr) (Ω:Sto) (H:Hp):Prop where
 sub:Same G H
 inj:ι.Nodup
 len:ι.length=Ω.length
 live:∀ a ∈ ι,∃ o,H a=some o
 cel:∀ (k:Nat) (c:Cell) (a:Addr),Ω[k]? = some c→ι[k]? = some a→zcl K G ι H a c
 sep:∀ (b:Addr) (k i k' i':Nat),zbS H ι Ω k i b→zbS H ι Ω k' i' b→k=k'∧i=i'
section
variable {K:PySem.W.Frag} {G G' H H':Hp} {ι ι':List Addr} {Ω:Sto} {a p:Addr}
theorem FdOk.mono {v:V} {fd:Fd} (h:FdOk K G ι H v fd) (e:Ext G ι G' ι') (ho:∀ b o,b ∉ ι→G b=none→H b=some o→b ∉ ι'∧G' b=none∧H' b=some o):FdOk K G' ι' H' v fd:=by
 cases fd with
 | val a=>exact Den.ext e h
 | lst ds =>
  obtain ⟨b,xs,h1,h2,h3,h4,h5⟩:=h
  obtain ⟨q1,q2,q3⟩:=ho b _ h3 h2 h4
  exact ⟨b,xs,h1,q2,q1,q3,h5.ext e⟩
 | dct kvs =>
  obtain ⟨b,ws,h1,h2,h3,h4,h5,h6⟩:=h
  obtain ⟨q1,q2,q3⟩:=ho b _ h3 h2 h4
  exact ⟨b,ws,h1,q2,q1,q3,h5,h6.ext e⟩
theorem zbV.map {K':PySem.W.Frag} {G' H':Hp} {ι':List Addr} (f:∀ v fd,FdOk K G ι H v fd→FdOk K' G' ι' H' v fd):∀ {ws:List (Str × V)} {fs:List (Str × Fd)},zbV K G ι H ws fs→zbV K' G' ι' H' ws fs
 | [],[],_=>trivial
 | (_,_) :: _,(_,_) :: _,h=>⟨h.1,f _ _ h.2.1,zbV.map f h.2.2⟩
 | [],_ :: _,h=>h.elim
 | _ :: _,[],h=>h.elim
theorem zcl.mono {c:Cell} (h:zcl K G ι H a c) (e:Ext G ι G' ι') (hg:G' a=G a) (hh:H' a=H a) (ho:∀ b o,b ∉ ι→G b=none→H b=some o→b ∉ ι'∧G' b=none∧H' b=some o):zcl K G' ι' H' a c:=by
 cases c with
 | lst ds=>obtain ⟨g,xs,h1,h2⟩:=h;exact ⟨hg.trans g,xs,hh.trans h1,h2.ext e⟩
 | dct kvs=>obtain ⟨g,ws,h1,h2,h3⟩:=h;exact ⟨hg.trans g,ws,hh.trans h1,h2,h3.ext e⟩
 | ins cls fs=>obtain ⟨g,C,dx,ws,h0,h1,h2⟩:=h;exact ⟨hg.trans g,C,dx,ws,h0,hh.trans h1,h2.map fun _ _ q=>q.mono e ho⟩
 | tab x pos qual =>
  obtain ⟨g,hc,ps,h1,h2,h3⟩:=h
  exact ⟨hg.trans g,hc,ps,hh.trans h1,h2,h3.imp id fun ⟨c',oc,vs,t,q1,q2,q3⟩=>⟨c',oc,vs,t,q1,e.same _ _ q2,q3⟩⟩
 | dead=>trivial
theorem Wd.addr (w:Wd K G ι Ω H) {k:Nat} {c:Cell} (h:Ω[k]? = some c):∃ a,ι[k]? = some a:=by
 have hk:=(List.getElem?_eq_some_iff.mp h).1
 exact ⟨ι[k]'(by rw [w.len];exact hk),List.getElem?_eq_getElem _⟩
theorem Wd.ne (w:Wd K G ι Ω H) (hp:H p=none) (ha:a ∈ ι):a ≠ p:=by
 obtain ⟨o,ho⟩:=w.live a ha
 exact zaO ho hp
theorem Wd.zfG (w:Wd K G ι Ω H) (hp:H p=none):G p=none:=by
 cases e:G p with
 | none=>rfl
 | some o=>rw [w.sub _ _ e] at hp;cases hp
theorem zbS.to {k i:Nat} {b:Addr} {ι':List Addr} {Ω Ω':Sto} (h:zbS H ι Ω k i b) (h1:∀ a,ι[k]? = some a→ι'[k]? = some a∧∀ o,H a=some o→H' a=some o) (h2:∀ cls fs,Ω[k]? = some (.ins cls fs)→Ω'[k]? = some (.ins cls fs)):zbS H' ι' Ω' k i b:=by
 obtain ⟨a,cls,fs,C,dx,ws,g,h',fd,q1,q2,q3,q4,q5,q6⟩:=h
 exact ⟨a,cls,fs,C,dx,ws,g,h',fd,(h1 a q1).1,h2 _ _ q2,(h1 a q1).2 _ q3,q4,q5,q6⟩
theorem zbS.no {k i:Nat} {b:Addr} {c:Cell} (h:zbS H ι Ω k i b) (hc:Ω[k]? = some c) (hn:c.noOwn=true):False:=by
 obtain ⟨a,cls,fs,C,dx,ws,g,h',fd,q1,q2,q3,q4,q5,q6⟩:=h
 rw [hc] at q2
 cases q2
 simp only [Cell.noOwn,List.all_eq_true] at hn
 have:=hn _ (List.mem_of_getElem? q4)
 simp only [] at this
 rw [q5] at this
 cases this
theorem Wd.grow (w:Wd K G ι Ω H) (s:Same H H'):Wd K G ι Ω H' where
 sub:=w.sub.trans s
 inj:=w.inj
 len:=w.len
 live:=fun a ha=>let ⟨o,ho⟩:=w.live a ha; ⟨o,s _ _ ho⟩
 cel:=fun k c a h1 h2=>by
  have q:=w.cel k c a h1 h2
  cases c with
  | lst ds=>obtain ⟨g,xs,h1,h2⟩:=q;exact ⟨g,xs,s _ _ h1,h2⟩
  | dct kvs=>obtain ⟨g,ws,h1,h2,h3⟩:=q;exact ⟨g,ws,s _ _ h1,h2,h3⟩
  | ins cls fs=>obtain ⟨g,C,dx,ws,h0,h1,h2⟩:=q;exact ⟨g,C,dx,ws,h0,s _ _ h1,h2.map fun _ _ q=>q.mono (Ext.refl _ _) fun b o x y z=>⟨x,y,s _ _ z⟩⟩
  | tab x pos qual =>
   obtain ⟨g,hc,ps,h1,h2⟩:=q
   exact ⟨g,hc,ps,s _ _ h1,h2⟩
  | dead=>trivial
 sep:=fun b k i k' i' h1 h2=>by
  have back:∀ {k i},zbS H' ι Ω k i b→zbS H ι Ω k i b:=fun h=>h.to (fun a ha=>⟨ha,fun o ho=>by
   obtain ⟨o',ho'⟩:=w.live a (List.mem_of_getElem? ha)
   have:=s _ _ ho'
   rw [ho] at this;cases this;exact ho'⟩) fun _ _ q=>q
  exact w.sep b k i k' i' (back h1) (back h2)
theorem zb8 {α:Type}:∀ {l:List α} {i j:Nat} {x:α},l.Nodup→l[i]? = some x→l[j]? = some x→i=j
 | [],_,_,_,_,h,_=>by simp at h
 | y :: l,0,0,_,_,_,_=>rfl
 | y :: l,0,j + 1,x,n,h1,h2=>by
  simp at h1 h2;subst h1
  exact absurd (List.mem_of_getElem? h2) (List.nodup_cons.mp n).1
 | y :: l,i + 1,0,x,n,h1,h2=>by
  simp at h1 h2;subst h2
  exact absurd (List.mem_of_getElem? h1) (List.nodup_cons.mp n).1
 | y :: l,i + 1,j + 1,x,n,h1,h2=>by
  simp at h1 h2
  rw [zb8 (List.nodup_cons.mp n).2 h1 h2]
theorem zbI {α:Type} {l:List α} {k:Nat} {x:α} (h:l[k]? = some x):x ∈ l:=List.mem_of_getElem? h
theorem Ext.new (hp:G p=none) (o:HO):Ext G ι (upd G p o) ι:=⟨Same.new hp,fun _ _ h=>h⟩
theorem Wd.new (w:Wd K G ι Ω H) (hp:H p=none) (o:HO):Wd K (upd G p o) ι Ω (upd H p o) where
 sub:=fun b u h=>by
  by_cases e:b=p
  ·subst e;rw [zaw] at h ⊢;exact h
  ·rw [zao e] at h ⊢;exact w.sub _ _ h
 inj:=w.inj
 len:=w.len
 live:=fun a ha=>by rw [zao (w.ne hp ha)];exact w.live a ha
 cel:=fun k c a h1 h2=>by
  have n:=w.ne hp (zbI h2)
  exact (w.cel k c a h1 h2).mono (Ext.new (w.zfG hp) o) (zao n) (zao n) fun b u x y z=>by
   have nb:b ≠ p:=zaO z hp
   exact ⟨x,by rw [zao nb];exact y,by rw [zao nb];exact z⟩
 sep:=fun b k i k' i' h1 h2=>by
  have back:∀ {k i},zbS (upd H p o) ι Ω k i b→zbS H ι Ω k i b:=fun h=>h.to (fun a ha=>⟨ha,fun u hu=>by rwa [zao (w.ne hp (List.mem_of_getElem? ha))] at hu⟩) fun _ _ q=>q
  exact w.sep b k i k' i' (back h1) (back h2)
theorem Ext.cell (x:Addr):Ext G ι G (ι ++ [x]):=⟨Same.refl _,fun k a h=>by
 rw [List.getElem?_append_left (List.getElem?_eq_some_iff.mp h).1];exact h⟩
theorem Wd.cell (w:Wd K G ι Ω H) (hp:H p=none) {o:HO} {c:Cell} (hc:zcl K G (ι ++ [p]) (upd H p o) p c) (hno:c.noOwn=true:=by rfl):Wd K G (ι ++ [p]) (Ω ++ [c]) (upd H p o) where
 sub:=fun b u h=>by
  have e:b ≠ p:=fun e=>by subst e;rw [w.sub _ _ h] at hp;cases hp
  rw [zao e];exact w.sub _ _ h
 inj:=by
  rw [List.nodup_append]
  exact ⟨w.inj,by simp,fun a ha b hb=>by simp at hb;subst hb;exact w.ne hp ha⟩
 len:=by simp [w.len]
 live:=fun a ha=>by
  rcases List.mem_append.mp ha with h | h
  ·rw [zao (w.ne hp h)];exact w.live a h
  ·simp at h;subst h;exact ⟨o,zaw⟩
 cel:=fun k c' a h1 h2=>by
  by_cases hk:k < ι.length
  ·rw [List.getElem?_append_left hk] at h2
   rw [List.getElem?_append_left (by rw [← w.len];exact hk)] at h1
   exact (w.cel k c' a h1 h2).mono (Ext.cell p) rfl (zao (w.ne hp (zbI h2))) fun b u x y z=>by
    have nb:b ≠ p:=zaO z hp
    exact ⟨by simp [x,nb],y,by rw [zao nb];exact z⟩
  ·have hk2:k=ι.length:=by
    have:=(List.getElem?_eq_some_iff.mp h2).1
    simp at this;omega
   subst hk2
   simp at h2;subst h2
   rw [w.len] at h1
   simp at h1;subst h1
   exact hc
 sep:=fun b k i k' i' h1 h2=>by
  have back:∀ {k i},zbS (upd H p o) (ι ++ [p]) (Ω ++ [c]) k i b→zbS H ι Ω k i b:=fun {k i} h=>by
   have h0:=h
   obtain ⟨a,cls,fs,C,dx,ws,g,h',fd,q1,q2,q3,q4,q5,q6⟩:=h
   by_cases hk:k < Ω.length
   ·rw [List.getElem?_append_left hk] at q2
    rw [List.getElem?_append_left (by rw [w.len];exact hk)] at q1
    rw [zao (w.ne hp (zbI q1))] at q3
    exact ⟨a,cls,fs,C,dx,ws,g,h',fd,q1,q2,q3,q4,q5,q6⟩
   ·have hk2:k=Ω.length:=by
     have:=(List.getElem?_eq_some_iff.mp q2).1
     simp at this;omega
    subst hk2
    exact (h0.no (by simp) hno).elim
  exact w.sep b k i k' i' (back h1) (back h2)
theorem Wd.put (w:Wd K G ι Ω H) {k:Nat} {c:Cell} {o:HO} (hk:ι[k]? = some a) (hg:G a=none) (hc:zcl K G ι (upd H a o) a c) (hno:c.noOwn=true:=by rfl):Wd K G ι (Ω.set k c) (upd H a o) where
 sub:=fun b u h=>by
  have e:b ≠ a:=fun e=>by subst e;rw [hg] at h;cases h
  rw [zao e];exact w.sub _ _ h
 inj:=w.inj
 len:=by rw [List.length_set];exact w.len
 live:=fun b hb=>by
  by_cases e:b=a
  ·subst e;exact ⟨o,zaw⟩
  ·rw [zao e];exact w.live b hb
 cel:=fun j c' b h1 h2=>by
  by_cases hj:j=k
  ·subst hj
   rw [hk] at h2;cases h2
   have hl:j < Ω.length:=by rw [← w.len];exact (List.getElem?_eq_some_iff.mp hk).1
   rw [List.getElem?_set_self hl] at h1
   cases h1;exact hc
  ·rw [List.getElem?_set_ne (Ne.symm hj)] at h1
   have hne:b ≠ a:=fun e=>by
    subst e
    exact hj (zb8 w.inj h2 hk)
   exact (w.cel j c' b h1 h2).mono (Ext.refl _ _) rfl (zao hne) fun b u x y z=>by
    have nb:b ≠ a:=fun e=>by subst e;exact x (zbI hk)
    exact ⟨x,y,by rw [zao nb];exact z⟩
 sep:=fun b j i j' i' h1 h2=>by
  have back:∀ {j i},zbS (upd H a o) ι (Ω.set k c) j i b→zbS H ι Ω j i b:=fun {j i} h=>by
   have h0:=h
   obtain ⟨a',cls,fs,C,dx,ws,g,h',fd,q1,q2,q3,q4,q5,q6⟩:=h
   by_cases hj:j=k
   ·subst hj
    have hl:j < Ω.length:=by rw [← w.len];exact (List.getElem?_eq_some_iff.mp hk).1
    exact (h0.no (by rw [List.getElem?_set_self hl]) hno).elim
   ·rw [List.getElem?_set_ne (Ne.symm hj)] at q2
    have hne:a' ≠ a:=fun e=>by subst e;exact hj (zb8 w.inj q1 hk)
    rw [zao hne] at q3
    exact ⟨a',cls,fs,C,dx,ws,g,h',fd,q1,q2,q3,q4,q5,q6⟩
  exact w.sep b j i j' i' (back h1) (back h2)
theorem Wd.freeze (w:Wd K G ι Ω H) {k:Nat} {o:HO} (hk:ι[k]? = some a) (hg:G a=none) (ho:H a=some o):Wd K (upd G a o) ι (Ω.set k .dead) H where
 sub:=fun b u h=>by
  by_cases e:b=a
  ·subst e;rw [zaw] at h;cases h;exact ho
  ·rw [zao e] at h;exact w.sub _ _ h
 inj:=w.inj
 len:=by rw [List.length_set];exact w.len
 live:=w.live
 cel:=fun j c' b h1 h2=>by
  by_cases hj:j=k
  ·subst hj
   have hl:j < Ω.length:=by rw [← w.len];exact (List.getElem?_eq_some_iff.mp hk).1
   rw [List.getElem?_set_self hl] at h1
   cases h1;trivial
  ·rw [List.getElem?_set_ne (Ne.symm hj)] at h1
   have hne:b ≠ a:=fun e=>by
    subst e
    exact hj (zb8 w.inj h2 hk)
   exact (w.cel j c' b h1 h2).mono (Ext.new hg o) (zao hne) rfl fun b u x y z=>by
    have nb:b ≠ a:=fun e=>by subst e;exact x (zbI hk)
    exact ⟨x,by rw [zao nb];exact y,z⟩
 sep:=fun b j i j' i' h1 h2=>by
  have back:∀ {j i},zbS H ι (Ω.set k .dead) j i b→zbS H ι Ω j i b:=fun {j i} h=>by
   have h0:=h
   obtain ⟨a',cls,fs,C,dx,ws,g,h',fd,q1,q2,q3,q4,q5,q6⟩:=h
   by_cases hj:j=k
   ·subst hj
    have hl:j < Ω.length:=by rw [← w.len];exact (List.getElem?_eq_some_iff.mp hk).1
    exact (h0.no (by rw [List.getElem?_set_self hl]) rfl).elim
   ·rw [List.getElem?_set_ne (Ne.symm hj)] at q2
    exact ⟨a',cls,fs,C,dx,ws,g,h',fd,q1,q2,q3,q4,q5,q6⟩
  exact w.sep b j i j' i' (back h1) (back h2)
end
def EnvR (K:PySem.W.Frag) (G:Hp) (ι:List Addr) (σ:L2.St) (ρ:Ev):Prop:=σ.length=ρ.length∧∀ (i:Nat) (d:A),ρ[i]? = some (some d)→∃ v,σ[i]? = some (some v)∧Den K G ι v d
theorem EnvR.ext {K:PySem.W.Frag} {G G':Hp} {ι ι':List Addr} {σ:L2.St} {ρ:Ev} (r:EnvR K G ι σ ρ) (e:Ext G ι G' ι'):EnvR K G' ι' σ ρ:=⟨r.1,fun i d h=>let ⟨v,h1,h2⟩:=r.2 i d h; ⟨v,h1,h2.ext e⟩⟩
theorem EnvR.set {K:PySem.W.Frag} {G:Hp} {ι:List Addr} {σ:L2.St} {ρ:Ev} (r:EnvR K G ι σ ρ) (j:Nat) {v:V} {d:A} (h:Den K G ι v d):EnvR K G ι (σ.set j (some v)) (ρ.set j (some d)):=by
 refine ⟨by rw [List.length_set,List.length_set];exact r.1,fun i e he=>?_⟩
 by_cases hij:i=j
 ·subst hij
  have hl:i < ρ.length:=by
   have:=(List.getElem?_eq_some_iff.mp he).1
   rwa [List.length_set] at this
  rw [List.getElem?_set_self hl] at he
  cases he
  exact ⟨v,List.getElem?_set_self (by rw [r.1];exact hl),h⟩
 ·rw [List.getElem?_set_ne (Ne.symm hij)] at he ⊢
  exact r.2 i e he
theorem EnvR.unset {K:PySem.W.Frag} {G:Hp} {ι:List Addr} {σ:L2.St} {ρ:Ev} (r:EnvR K G ι σ ρ) (j:Nat) (o:Option V):EnvR K G ι (σ.set j o) (ρ.set j none):=by
 refine ⟨by rw [List.length_set,List.length_set];exact r.1,fun i e he=>?_⟩
 by_cases hij:i=j
 ·subst hij
  have hl:i < ρ.length:=by
   have:=(List.getElem?_eq_some_iff.mp he).1
   rwa [List.length_set] at this
  rw [List.getElem?_set_self hl] at he
  cases he
 ·rw [List.getElem?_set_ne (Ne.symm hij)] at he ⊢
  exact r.2 i e he
def ExcR (K:PySem.W.Frag) (G:Hp) (ι:List Addr) (H:Hp) (x:Exc) (cls:Value) (dx:Option Addr):Prop :=
 (∃ C,PySem.W.nsIn K mainGlobals x.cls=some (some (.ref C))∧cls = .ref C)∧((x.fs=[]∧dx=none)∨∃ d f i,dx=some d∧x.fs=[(f, .int i)]∧G d=some (.xd [(f, .int i)]))
abbrev Rl (α β:Type):=Hp→List Addr→β→α→Prop
def Post {α β:Type} (K:PySem.W.Frag) (rel:Rl α β) (W:WX) (G:Hp) (ι:List Addr) (σ:L2.St) (Q:β→Hp→Prop):Option (Rs α × Sto)→Prop
 | some (.ok a,Ω')=>∀ v H' G' ι',Ext G ι G' ι'→Wd K G' ι' Ω' H'→rel G' ι' v a→Q v H'
 | some (.exc x,Ω')=>∀ cls dx H' G' ι',Ext G ι G' ι'→Wd K G' ι' Ω' H'→ExcR K G' ι' H' x cls dx→W σ cls dx H'
 | none=>False
theorem Post.ext {α β:Type} {K:PySem.W.Frag} {rel:Rl α β} {W:WX} {G G1:Hp} {ι ι1:List Addr} {σ:L2.St} {Q:β→Hp→Prop} {r:Option (Rs α × Sto)} (h:Post K rel W G ι σ Q r) (e:Ext G ι G1 ι1):Post K rel W G1 ι1 σ Q r:=by
 match r,h with
 | some (.ok a,Ω'),h=>exact fun v H' G' ι' x w d=>h v H' G' ι' (e.trans x) w d
 | some (.exc x,Ω'),h=>exact fun cls dx H' G' ι' x w d=>h cls dx H' G' ι' (e.trans x) w d
theorem Post.mb {α β γ δ:Type} {K:PySem.W.Frag} {rel:Rl α β} {rel':Rl γ δ} {W:WX} {G:Hp} {ι:List Addr} {σ:L2.St} {Q:δ→Hp→Prop} {Q1:β→Hp→Prop} {m:Mo α} {k:α→Mo γ} {Ω:Sto} (h:Post K rel' W G ι σ Q (mb m k Ω))
  (hk:∀ a Ω1 v H1 G1 ι1,Ext G ι G1 ι1→Wd K G1 ι1 Ω1 H1→rel G1 ι1 v a→Post K rel' W G1 ι1 σ Q (k a Ω1)→Q1 v H1):Post K rel W G ι σ Q1 (m Ω):=by
 unfold V2.mb at h
 revert h
 generalize m Ω=r
 intro h
 match r,h with
 | some (.ok a,Ω1),h=>exact fun v H1 G1 ι1 x w d=>hk a Ω1 v H1 G1 ι1 x w d (Post.ext h x)
 | some (.exc x,Ω1),h=>exact h
theorem Post.need {α β γ:Type} {K:PySem.W.Frag} {rel':Rl α β} {W:WX} {G:Hp} {ι:List Addr} {σ:L2.St} {Q:β→Hp→Prop} {o:Option γ} {k:γ→Mo α} {Ω:Sto} (h:Post K rel' W G ι σ Q (V2.mb (need o) k Ω)):∃ a,o=some a∧Post K rel' W G ι σ Q (k a Ω):=by
 cases o with
 | none=>exact False.elim h
 | some a=>exact ⟨a,rfl,h⟩
theorem Post.chk {α β:Type} {K:PySem.W.Frag} {rel':Rl α β} {W:WX} {G:Hp} {ι:List Addr} {σ:L2.St} {Q:β→Hp→Prop} {p:Prop} [Decidable p] {k:Unit→Mo α} {Ω:Sto} (h:Post K rel' W G ι σ Q (V2.mb (chk p) k Ω)):p∧Post K rel' W G ι σ Q (k () Ω):=by
 unfold V2.mb V2.chk at h
 by_cases hp:p
 ·rw [if_pos hp] at h;exact ⟨hp,h⟩
 ·rw [if_neg hp] at h;exact False.elim h
def Sim {α β:Type} (K:PySem.W.Frag) (rel:Rl α β) (W:WX) (t:L2.St→Hp→(β→Hp→Prop)→Prop) (f:Ev→Mo α):Prop :=
 ∀ G ι Ω H σ ρ Q,Wd K G ι Ω H→EnvR K G ι σ ρ→Post K rel W G ι σ Q (f ρ Ω)→t σ H Q
def relB:Rl Bool Bool:=fun _ _ b c=>b=c
def VE (X:Cx) (W:WX) (e:Expr) (f:Ev→Mo A):Prop:=∃ t,PE X e t∧Sim X.K (Den X.K) W t f
def VT (X:Cx) (W:WX) (e:Expr) (f:Ev→Mo Bool):Prop:=∃ t,PT X e t∧Sim X.K relB W t f
def VW (X:Cx) (W:WX) (e:Expr) (f:Ev→Mo Bool):Prop:=∃ t,PW X e t∧Sim X.K relB W t f
def VA (X:Cx) (W:WX) (es:List Expr) (f:Ev→Mo (List A)):Prop:=∃ t,PA X es t∧Sim X.K (DenL X.K) W t f
end V2
namespace V2
open PySem PySem.Spec PyProof.Rows L2
section
variable {K:PySem.W.Frag} {G H:Hp} {ι:List Addr} {Ω:Sto} {v:V} {a:A}
def zar (Ω:Sto):A→Option (List A)
 | .lst ds=>some ds
 | .scr ns=>some (ns.map A.int)
 | .cel k=>match Ω[k]? with
  | some (.lst ds)=>some ds
  | _=>none
 | _=>none
def za7 (Ω:Sto):A→Option (List A)
 | .tup ds=>some ds
 | a=>zar Ω a
theorem zbR (w:Wd K G ι Ω H) (d:Den K G ι v a) {ds:List A} (h:zar Ω a=some ds):∃ p xs,v = .ref p∧SqL K H p xs∧DenL K G ι xs ds:=by
 cases a with
 | lst es =>
  simp only [zar,Option.some.injEq] at h;subst h
  simp only [Den] at d
  obtain ⟨p,xs,h1,h2,h3⟩:=d
  exact ⟨p,xs,h1,SqL.of (w.sub _ _ h2),h3⟩
 | scr ns =>
  simp only [zar,Option.some.injEq] at h;subst h
  simp only [Den] at d
  obtain ⟨p,h1,h2⟩:=d
  exact ⟨p,_,h1,w.sub.seq h2,zge ns⟩
 | cel k =>
  simp only [zar] at h
  cases e:Ω[k]? with
  | none=>rw [e] at h;cases h
  | some c =>
   rw [e] at h
   cases c with
   | lst es =>
    simp only [Option.some.injEq] at h;subst h
    simp only [Den] at d
    obtain ⟨p,h1,h2⟩:=d
    obtain ⟨g,xs,h3,h4⟩:=w.cel k _ p e h2
    exact ⟨p,xs,h1,SqL.of h3,h4⟩
   | _=>cases h
 | _=>simp [zar] at h
theorem zeW (w:Wd K G ι Ω H) (d:Den K G ι v a) {ds:List A} (h:za7 Ω a=some ds):∃ p xs,v = .ref p∧(SqL K H p xs∨SqT K H p xs)∧DenL K G ι xs ds:=by
 cases a with
 | tup es =>
  simp only [za7,Option.some.injEq] at h;subst h
  simp only [Den] at d
  obtain ⟨p,xs,h1,h2,h3⟩:=d
  exact ⟨p,xs,h1, .inr (SqT.of (w.sub _ _ h2)),h3⟩
 | _ =>
  obtain ⟨p,xs,h1,h2,h3⟩:=zbR w d h
  exact ⟨p,xs,h1, .inl h2,h3⟩
theorem zhI (w:Wd K G ι Ω H) (d:Den K G ι v a) {ds:List A} (h:zar Ω a=some ds) (hs:∀ ns,a ≠ .scr ns):∃ p xs,v = .ref p∧H p=some (.lst xs)∧DenL K G ι xs ds:=by
 cases a with
 | lst es =>
  simp only [zar,Option.some.injEq] at h;subst h
  simp only [Den] at d
  obtain ⟨p,xs,h1,h2,h3⟩:=d
  exact ⟨p,xs,h1,w.sub _ _ h2,h3⟩
 | scr ns=>exact absurd rfl (hs ns)
 | cel k =>
  simp only [zar] at h
  cases e:Ω[k]? with
  | none=>rw [e] at h;cases h
  | some c =>
   rw [e] at h
   cases c with
   | lst es =>
    simp only [Option.some.injEq] at h;subst h
    simp only [Den] at d
    obtain ⟨p,h1,h2⟩:=d
    obtain ⟨g,xs,h3,h4⟩:=w.cel k _ p e h2
    exact ⟨p,xs,h1,h3,h4⟩
   | _=>cases h
 | _=>simp [zar] at h
end
@[simp] def mkL (c:Bool) (ds:List A):Mo A:=fun Ω=>if c then some (.ok (.cel Ω.length),Ω ++ [.lst ds]) else some (.ok (.lst ds),Ω)
section
variable {K:PySem.W.Frag} {G H:Hp} {ι:List Addr} {Ω:Sto} {W:WX} {σ:L2.St} {Q:VK}
theorem zjf {c:Bool} {ds:List A} {xs:List V} {p:Addr} (w:Wd K G ι Ω H) (hp:H p=none) (d:DenL K G ι xs ds) (h:Post K (Den K) W G ι σ Q (mkL c ds Ω)):Q (.ref p) (upd H p (.lst xs)):=by
 cases c with
 | true =>
  refine h _ _ G (ι ++ [p]) (Ext.cell p) (w.cell hp ⟨w.zfG hp,xs,zaw,d.ext (Ext.cell p)⟩) ?_
  simp only [Den]
  exact ⟨p,rfl,by rw [← w.len];simp⟩
 | false =>
  refine h _ _ _ _ (Ext.new (w.zfG hp) (.lst xs)) (w.new hp _) ?_
  simp only [Den]
  exact ⟨p,xs,rfl,zaw,d.ext (Ext.new (w.zfG hp) _)⟩
@[simp] def mkT (ds:List A):Mo A:=ret (.tup ds)
theorem zi3 {ds:List A} {xs:List V} {p:Addr} (w:Wd K G ι Ω H) (hp:H p=none) (d:DenL K G ι xs ds) (h:Post K (Den K) W G ι σ Q (mkT ds Ω)):Q (.ref p) (upd H p (.tup xs)):=by
 refine h _ _ _ _ (Ext.new (w.zfG hp) (.tup xs)) (w.new hp _) ?_
 simp only [Den]
 exact ⟨p,xs,rfl,zaw,d.ext (Ext.new (w.zfG hp) _)⟩
theorem zbw {α β:Type} {rel:Rl α β} {Q:β→Hp→Prop} {a:α} {b:β} (w:Wd K G ι Ω H) (d:rel G ι b a) (h:Post K rel W G ι σ Q (ret a Ω)):Q b H:=h b H G ι (Ext.refl _ _) w d
end
section
variable {X:Cx} {W:WX} {e a b:Expr} {es:List Expr} {pos:Pos} {fa fb:Ev→Mo A} {fs:Ev→Mo (List A)}
@[simp] def vVar (i:Nat):Ev→Mo A:=fun ρ=>need (ρ[i]?).join
theorem join_some {α:Type} {o:Option (Option α)} {x:α} (h:o.join=some x):o=some (some x):=by
 cases o with
 | none=>cases h
 | some y=>cases y with
  | none=>cases h
  | some z=>cases h;rfl
theorem zlb {K:PySem.W.Frag} {i:Nat}:Sim K (Den K) W (tVar i) (vVar i):=by
 intro G ι Ω H σ ρ Q w r h
 unfold vVar need at h
 cases e:(ρ[i]?).join with
 | none=>rw [e] at h;exact False.elim h
 | some d =>
  rw [e] at h
  obtain ⟨v,h1,h2⟩:=r.2 i d (join_some e)
  exact ⟨v,h1,h v H G ι (Ext.refl _ _) w h2⟩
theorem vv (i:Nat) {x:Str} (hN:X.N[i]? = some x:=by rfl) (hv:Vis X.env.scope x:=by first | exact Or.inl rfl | exact Or.inr (Or.inl rfl) | exact Or.inr (Or.inr rfl)) (hd:(x == ("__debug__" : Str))=false:=by decide)
  (hcd:(x == ("__classdict__" : Str))=false:=by decide):VE X W (.Name x pos) (vVar i):=⟨_,zi7 hN hv hd hcd,zlb⟩
@[simp] def vFrz (i:Nat):Ev→Mo A:=fun ρ Ω=>match (ρ[i]?).join with
 | some (.cel k)=>match Ω[k]? with
  | some (.lst ds)=>some (.ok (.lst ds),Ω.set k .dead)
  | _=>none
 | _=>none
theorem zmf {K:PySem.W.Frag} {i:Nat}:Sim K (Den K) W (tVar i) (vFrz i):=by
 intro G ι Ω H σ ρ Q w r h
 unfold vFrz at h
 cases e:(ρ[i]?).join with
 | none=>rw [e] at h;exact False.elim h
 | some d =>
  rw [e] at h
  cases d with
  | cel k =>
   simp only at h
   cases e2:Ω[k]? with
   | none=>rw [e2] at h;exact False.elim h
   | some c =>
    rw [e2] at h
    cases c with
    | lst ds =>
     obtain ⟨v,h1,h2⟩:=r.2 i _ (join_some e)
     simp only [Den] at h2
     obtain ⟨p,rfl,h4⟩:=h2
     obtain ⟨g,xs,h5,h6⟩:=w.cel k _ p e2 h4
     refine ⟨_,h1,h _ H (upd G p (.lst xs)) ι (Ext.new g _) (w.freeze h4 g h5) ?_⟩
     simp only [Den]
     exact ⟨p,xs,rfl,zaw,h6.ext (Ext.new g _)⟩
    | _=>exact False.elim h
  | _=>exact False.elim h
theorem vf (i:Nat) {x:Str} (hN:X.N[i]? = some x:=by rfl) (hv:Vis X.env.scope x:=by first | exact Or.inl rfl | exact Or.inr (Or.inl rfl) | exact Or.inr (Or.inr rfl)) (hd:(x == ("__debug__" : Str))=false:=by decide)
  (hcd:(x == ("__classdict__" : Str))=false:=by decide):VE X W (.Name x pos) (vFrz i):=⟨_,zi7 hN hv hd hcd,zmf⟩
theorem zhZ {K:PySem.W.Frag} {v:V} {d:A} (h:∀ G ι,Den K G ι v d):Sim K (Den K) W (tC v) (fun _=>ret d):=fun G ι _ _ _ _ _ w _ q=>zbw w (h G ι) q
theorem zad {i:Int} {j}:VE X W (.Constant (.int i) j pos) (fun _=>ret (.int i)):=⟨_,zmN,zhZ fun _ _=>by simp only [Den]⟩
theorem zeI {i:Bool} {j}:VE X W (.Constant (.bool i) j pos) (fun _=>ret (.bl i)):=⟨_,zob,zhZ fun _ _=>by simp only [Den]⟩
theorem znX {j}:VE X W (.Constant .none j pos) (fun _=>ret .non):=⟨_,znJ,zhZ fun _ _=>by simp only [Den]⟩
theorem znc {x:Str} {j}:VE X W (.Constant (.str x) j pos) (fun _=>ret (.str x)):=⟨_,zna,zhZ fun _ _=>by simp only [Den]⟩
theorem zly {x:Str} {p:Addr} (hg:Gl X x) (hm:X.mg x=some (.ref p)) (hK:PySem.W.nsIn X.K mainGlobals x=some (some (.ref p))) (hd:(x == ("__debug__" : Str))=false:=by decide):VE X W (.Name x pos) (fun _=>ret (.gl x)) :=
 ⟨_,zmh (v := .ref p) hg hm rfl hd,zhZ fun _ _=>by simp only [Den];exact ⟨p,hK,rfl⟩⟩
theorem zj5 {x:Str} {n:String} (hg:Gl X x) (hm:X.mg x=none) (hv:bootBuiltins x=some (.type n)) (hn:x ≠ "__name__":=by decide) (hd:(x == ("__debug__" : Str))=false:=by decide):VE X W (.Name x pos) (fun _=>ret (.ty n)) :=
 ⟨_,zlj (v := .ty n) hg hm hv rfl hn hd,zhZ fun _ _=>by simp only [Den]⟩
theorem zaf:VA X W [] (fun _=>ret []):=⟨_,zhB,fun _ _ _ _ _ _ _ w _ q=>zbw w .nil q⟩
@[simp] def zac (f:Ev→Mo A) (g:Ev→Mo (List A)):Ev→Mo (List A):=fun ρ=>mb (f ρ) fun x=>mb (g ρ) fun xs=>ret (x :: xs)
theorem zaa (h1:VE X W e fa) (h2:VA X W es fs) (hs:starEach (e :: es) X.env=(false,eval e X.env) :: starEach es X.env:=by rfl):VA X W (e :: es) (zac fa fs):=by
 obtain ⟨t,p1,s1⟩:=h1
 obtain ⟨u,p2,s2⟩:=h2
 refine ⟨_,zhf p1 p2 hs,fun G ι Ω H σ ρ Q w r h=>?_⟩
 refine s1 G ι Ω H σ ρ _ w r (Post.mb h fun x Ω1 v H1 G1 ι1 x1 w1 d1 h1=>?_)
 refine s2 G1 ι1 Ω1 H1 σ ρ _ w1 (r.ext x1) (Post.mb h1 fun xs Ω2 vs H2 G2 ι2 x2 w2 d2 h2=>?_)
 exact zbw w2 (.cons (d1.ext x2) d2) h2
@[simp] def vTup (g:Ev→Mo (List A)):Ev→Mo A:=fun ρ=>mb (g ρ) fun xs=>mb (chk (xs.length ≤ sizeLine)) fun _=>mkT xs
theorem zd9 {k} (h:VA X W es fs):VE X W (.Tuple es k pos) (vTup fs):=by
 obtain ⟨t,p,s⟩:=h
 refine ⟨_,zn0 p,fun G ι Ω H σ ρ Q w r h=>?_⟩
 refine s G ι Ω H σ ρ _ w r (Post.mb h fun xs Ω1 vs H1 G1 ι1 x1 w1 d1 h1=>?_)
 obtain ⟨hl,h2⟩:=Post.chk h1
 exact ⟨by rw [d1.length];exact hl,fun p hp=>zi3 w1 hp d1 h2⟩
@[simp] def vLst (c:Bool) (g:Ev→Mo (List A)):Ev→Mo A:=fun ρ=>mb (g ρ) fun xs=>mb (chk (xs.length ≤ sizeLine)) fun _=>mkL c xs
theorem zcE (c:Bool) (h:VA X W es fs):VE X W (.List es pos) (vLst c fs):=by
 obtain ⟨t,p,s⟩:=h
 refine ⟨_,zkG p,fun G ι Ω H σ ρ Q w r h=>?_⟩
 refine s G ι Ω H σ ρ _ w r (Post.mb h fun xs Ω1 vs H1 G1 ι1 x1 w1 d1 h1=>?_)
 obtain ⟨hl,h2⟩:=Post.chk h1
 exact ⟨by rw [d1.length];exact hl,fun p hp=>zjf w1 hp d1 h2⟩
def OpV (K:PySem.W.Frag) (W:WX) (r:R2) (g:A→A→Mo A):Prop :=
 ∀ G ι Ω H σ x y a b Q,Wd K G ι Ω H→Den K G ι x a→Den K G ι y b→Post K (Den K) W G ι σ Q (g a b Ω)→r x y H Q
def OpOk (X:Cx) (W:WX) (f:Value→Value→Sem Value) (g:A→A→Mo A):Prop:=∃ r,OpR X f r∧OpV X.K W r g
@[simp] def vOp (g:A→A→Mo A) (f h:Ev→Mo A):Ev→Mo A:=fun ρ=>mb (f ρ) fun x=>mb (h ρ) fun y=>g x y
theorem zhA {K:PySem.W.Frag} {r:R2} {g:A→A→Mo A} {ta tb:TE} (ho:OpV K W r g) (h1:Sim K (Den K) W ta fa) (h2:Sim K (Den K) W tb fb):Sim K (Den K) W (tOp r ta tb) (vOp g fa fb):=by
 intro G ι Ω H σ ρ Q w q h
 refine h1 G ι Ω H σ ρ _ w q (Post.mb h fun x Ω1 v H1 G1 ι1 x1 w1 d1 h1=>?_)
 refine h2 G1 ι1 Ω1 H1 σ ρ _ w1 (q.ext x1) (Post.mb h1 fun y Ω2 u H2 G2 ι2 x2 w2 d2 h2=>?_)
 exact ho G2 ι2 Ω2 H2 σ v u x y Q w2 (d1.ext x2) d2 h2
theorem zak {op:Operator} {g:A→A→Mo A} (ho:OpOk X W (binaryOp op) g) (ha:VE X W a fa) (hb:VE X W b fb):VE X W (.BinOp a op b pos) (vOp g fa fb):=by
 obtain ⟨r,o1,o2⟩:=ho
 obtain ⟨t,p1,s1⟩:=ha
 obtain ⟨u,p2,s2⟩:=hb
 exact ⟨_,zn8 o1 p1 p2,zhA o2 s1 s2⟩
@[simp] def gI (C:Int→Int→Prop) [∀ i j,Decidable (C i j)] (g:Int→Int→A):A→A→Mo A
 | .int i, .int j=>mb (chk (C i j)) fun _=>ret (g i j)
 | _,_=>stuck
theorem zkx {K:PySem.W.Frag} {C:Int→Int→Prop} [∀ i j,Decidable (C i j)] {g:Int→Int→V} {g':Int→Int→A} (hg:∀ G ι i j,Den K G ι (g i j) (g' i j)):OpV K W (rI C g) (gI C g'):=by
 intro G ι Ω H σ x y a b Q w d1 d2 h
 cases a with
 | int i =>
  cases b with
  | int j =>
   simp only [Den] at d1 d2
   obtain ⟨hc,h2⟩:=Post.chk h
   exact ⟨i,j,d1,d2,hc,zbw w (hg _ _ _ _) h2⟩
  | _=>exact False.elim h
 | _=>exact False.elim h
@[simp] def gI0 (g:Int→Int→A):A→A→Mo A
 | .int i, .int j=>ret (g i j)
 | _,_=>stuck
theorem zgn {K:PySem.W.Frag} {g:Int→Int→V} {g':Int→Int→A} (hg:∀ G ι i j,Den K G ι (g i j) (g' i j)):OpV K W (rI0 g) (gI0 g'):=by
 intro G ι Ω H σ x y a b Q w d1 d2 h
 cases a with
 | int i =>
  cases b with
  | int j =>
   simp only [Den] at d1 d2
   exact ⟨i,j,d1,d2,zbw w (hg _ _ _ _) h⟩
  | _=>exact False.elim h
 | _=>exact False.elim h
instance:∀ i j,Decidable (CMul i j):=fun i j=>by unfold CMul;infer_instance
instance:∀ i j,Decidable (CDiv i j):=fun i j=>by unfold CDiv;infer_instance
instance:∀ i j,Decidable (CPow i j):=fun i j=>by unfold CPow;infer_instance
@[simp] def gSub:=gI0 fun i j => .int (i - j)
@[simp] def gMul:=gI CMul fun i j => .int (i * j)
@[simp] def gDiv:=gI CDiv fun i j => .int (i / j)
@[simp] def gMod:=gI (fun _ j=>0 < j) fun i j => .int (i % j)
@[simp] def gPow:=gI CPow fun i j => .int (i ^ j.toNat)
theorem zcw:OpOk X W (binaryOp .Sub) gSub:=⟨_,zmI,zgn fun _ _ _ _=>by simp only [Den]⟩
theorem zdW:OpOk X W (binaryOp .Mult) gMul:=⟨_,znI,zkx fun _ _ _ _=>by simp only [Den]⟩
theorem zmi:OpOk X W (binaryOp .FloorDiv) gDiv:=⟨_,zlf,zkx fun _ _ _ _=>by simp only [Den]⟩
theorem zcO:OpOk X W (binaryOp .Mod) gMod:=⟨_,zm2,zkx fun _ _ _ _=>by simp only [Den]⟩
theorem zg0:OpOk X W (binaryOp .Pow) gPow:=⟨_,znm,zkx fun _ _ _ _=>by simp only [Den]⟩
@[simp] def ziF:A→Bool
 | .scr _=>true
 | _=>false
theorem zkK {a:A} (h:ziF a=false):∀ ns,a ≠ .scr ns:=fun ns e=>by subst e;cases h
@[simp] def gCat (c:Bool) (a b:A):Mo A:=fun Ω=>match zar Ω a,zar Ω b with
  | some xs,some ys=>if ziF a || ziF b || decide (sizeLine < xs.length + ys.length) then none else mkL c (xs ++ ys) Ω
  | _,_=>none
@[simp] def gAdd (c:Bool):A→A→Mo A
 | .int i, .int j=>ret (.int (i + j))
 | .tup xs, .tup ys=>mb (chk (0 < xs.length∧xs.length + ys.length ≤ sizeLine)) fun _=>mkT (xs ++ ys)
 | a,b=>gCat c a b
theorem zlG {K:PySem.W.Frag} {c:Bool}:OpV K W rCat (gCat c):=by
 intro G ι Ω H σ x y a b Q w d1 d2 h
 unfold gCat at h
 match e1:zar Ω a,e2:zar Ω b with
 | none,_=>rw [e1] at h;exact False.elim h
 | some xs,none=>rw [e1,e2] at h;exact False.elim h
 | some xs,some ys =>
  rw [e1,e2] at h
  simp only at h
  by_cases hb:(ziF a || ziF b || decide (sizeLine < xs.length + ys.length))=true
  ·rw [if_pos hb] at h;exact False.elim h
  ·rw [if_neg hb] at h
   simp only [Bool.or_eq_true,decide_eq_true_eq,not_or,Bool.not_eq_true] at hb
   obtain ⟨p,us,rfl,h2,h3⟩:=zhI w d1 e1 (zkK hb.1.1)
   obtain ⟨q,ws,rfl,h5,h6⟩:=zhI w d2 e2 (zkK hb.1.2)
   exact ⟨p,q,us,ws,rfl,rfl,h2,h5,by rw [h3.length,h6.length];omega,fun r hr=>zjf w hr (h3.append h6) h⟩
theorem zbs (c:Bool):OpOk X W (binaryOp .Add) (gAdd c):=by
 refine ⟨_,zny.or (zmQ.or zmm),?_⟩
 intro G ι Ω H σ x y a b Q w d1 d2 h
 unfold gAdd at h
 split at h
 ·simp only [Den] at d1 d2
  exact .inl ⟨_,_,d1,d2,zbw w (by simp only [Den]) h⟩
 ·rename_i xs ys
  simp only [Den] at d1 d2
  obtain ⟨p,us,rfl,h2,h3⟩:=d1
  obtain ⟨q,ws,rfl,h5,h6⟩:=d2
  obtain ⟨⟨c1,c2⟩,h⟩:=Post.chk h
  refine .inr (.inr ⟨p,q,us,ws,rfl,rfl,SqT.of (w.sub _ _ h2),SqT.of (w.sub _ _ h5),?_,by rw [h3.length,h6.length];exact c2,fun e=>?_,fun _ r hr=>zi3 w hr (h3.append h6) h⟩)
  ·intro e
   subst e
   have:=h3.length
   simp at this
   omega
  ·subst e
   refine zbw w ?_ h
   simp only [Den]
   exact ⟨p,us,rfl,h2,by simpa using h3.append h6⟩
 ·exact .inr (.inl (zlG G ι Ω H σ x y _ _ Q w d1 d2 h))
end
end V2
namespace V2
open PySem PySem.Spec PyProof.Rows L2
def pur:Nat→A→Bool
 | _, .int _=>true
 | _, .bl _=>true
 | _, .non=>true
 | _, .str x=>PyData.canLay0 (.str x)
 | n + 1, .tup ds=>ds.all (pur n)
 | n + 1, .lst ds=>ds.all (pur n)
 | _,_=>false
def zgq (f:A→A→Bool):List A→List A→Bool
 | [],[]=>true
 | x :: xs,y :: ys=>f x y && zgq f xs ys
 | _,_=>false
def eqA:Nat→A→A→Bool
 | _, .int i, .int j=>i == j
 | _, .bl i, .bl j=>i == j
 | _, .bl i, .int j=>(if i then 1 else 0) == j
 | _, .int i, .bl j=>i == (if j then 1 else 0)
 | _, .non, .non=>true
 | _, .str x, .str y=>x == y
 | n + 1, .tup xs, .tup ys=>zgq (eqA n) xs ys
 | n + 1, .lst xs, .lst ys=>zgq (eqA n) xs ys
 | _,_,_=>false
def toPy:Nat→A→PyData
 | _, .int i => .int i
 | _, .bl i => .bool i
 | _, .str x => .str x
 | n + 1, .tup ds => .tuple (ds.map (toPy n))
 | n + 1, .lst ds => .list (ds.map (toPy n))
 | _,_ => .none
theorem zi4:∀ (ds:List A) (n:Nat),(∀ d ∈ ds,pur n d=true→PyData.canLay0 (toPy n d)=true)→ds.all (pur n)=true→PyData.canLayAll0 (ds.map (toPy n))=true
 | [],_,_,_=>rfl
 | d :: ds,n,ih,h=>by
  simp only [List.all_cons,Bool.and_eq_true] at h
  simp only [List.map_cons,PyData.canLayAll0,Bool.and_eq_true]
  exact ⟨ih d (List.mem_cons_self ..) h.1,zi4 ds n (fun e he=>ih e (List.mem_cons_of_mem _ he)) h.2⟩
theorem zek:∀ (n:Nat) (a:A),pur n a=true→PyData.canLay0 (toPy n a)=true:=by
 intro n
 induction n with
 | zero=>intro a h;cases a <;> first | rfl | exact h | cases h
 | succ n ih =>
  intro a h
  cases a with
  | tup ds=>exact zi4 ds n (fun d _=>ih d) h
  | lst ds=>exact zi4 ds n (fun d _=>ih d) h
  | str x=>exact h
  | int i=>rfl
  | bl b=>rfl
  | non=>rfl
  | _=>cases h
theorem zi2:∀ (ds:List A) (n:Nat),(∀ d ∈ ds,(toPy n d).depth ≤ n)→PyData.depthAll (ds.map (toPy n)) ≤ n
 | [],_,_=>Nat.zero_le _
 | d :: ds,n,ih=>by
  simp only [List.map_cons,PyData.depthAll]
  exact Nat.max_le.mpr ⟨ih d (List.mem_cons_self ..),zi2 ds n fun e he=>ih e (List.mem_cons_of_mem _ he)⟩
theorem zfc:∀ (n:Nat) (a:A),(toPy n a).depth ≤ n:=by
 intro n
 induction n with
 | zero=>intro a;cases a <;> exact Nat.le_refl _
 | succ n ih =>
  intro a
  cases a with
  | tup ds=>exact Nat.succ_le_succ (zi2 ds n fun d _=>ih d)
  | lst ds=>exact Nat.succ_le_succ (zi2 ds n fun d _=>ih d)
  | _=>exact Nat.zero_le _
theorem zkR:∀ (xs ys:List A) (n:Nat),(∀ x ∈ xs,∀ y ∈ ys,PyData.eqv (toPy n x) (toPy n y)=eqA n x y)→PyData.eqvAll (xs.map (toPy n)) (ys.map (toPy n))=zgq (eqA n) xs ys
 | [],[],_,_=>rfl
 | [],_ :: _,_,_=>rfl
 | _ :: _,[],_,_=>rfl
 | x :: xs,y :: ys,n,ih=>by
  simp only [List.map_cons,PyData.eqvAll,zgq]
  rw [ih x (List.mem_cons_self ..) y (List.mem_cons_self ..),zkR xs ys n fun a ha b hb=>ih a (List.mem_cons_of_mem _ ha) b (List.mem_cons_of_mem _ hb)]
theorem zhy:∀ (n:Nat) (a b:A),pur n a=true→pur n b=true→PyData.eqv (toPy n a) (toPy n b)=eqA n a b:=by
 intro n
 induction n with
 | zero=>intro a b ha hb;cases a <;> cases b <;> first | rfl | (simp [pur] at ha;done) | (simp [pur] at hb;done)
 | succ n ih =>
  intro a b ha hb
  have lst:∀ xs ys:List A,xs.all (pur n)=true→ys.all (pur n)=true→PyData.eqvAll (xs.map (toPy n)) (ys.map (toPy n))=zgq (eqA n) xs ys:=fun xs ys h1 h2 =>
   zkR xs ys n fun x hx y hy=>ih x y (List.all_eq_true.mp h1 x hx) (List.all_eq_true.mp h2 y hy)
  cases a <;> cases b <;> first | rfl | (simp [pur] at ha;done) | (simp [pur] at hb;done) | exact lst _ _ ha hb
section
variable {X:Cx} {pins:List (Addr × Obj)} {σ:L2.St} {H:Hp} {s:Shared} {ι:List Addr}
theorem readsAll (n:Nat) (ih:∀ (v:V) (u:Value) (a:A),pur n a=true→Den X.K H ι v a→RelV v u→∃ as,Reads s.heap u (toPy n a) as) :
  ∀ (ds:List A) (xs:List V) (us:List Value),ds.all (pur n)=true→DenL X.K H ι xs ds→Vals xs us→∃ as,ReadsAll s.heap us (ds.map (toPy n)) as
 | [],xs,us,_,d,r=>by
  rw [zbP] at d;subst d;cases r;exact ⟨_, .nil⟩
 | a :: ds,xs,us,h,d,r=>by
  obtain ⟨x,t,rfl,d1,d2⟩:=d.zch
  simp only [List.all_cons,Bool.and_eq_true] at h
  cases r with
  | cons r1 r2 =>
   obtain ⟨as,q1⟩:=ih _ _ _ h.1 d1 r1
   obtain ⟨bs,q2⟩:=readsAll n ih ds _ _ h.2 d2 r2
   exact ⟨_, .cons q1 q2⟩
theorem zei (I:Inv X pins σ H s):∀ (n:Nat) (v:V) (u:Value) (a:A),pur n a=true→Den X.K H ι v a→RelV v u→∃ as,Reads s.heap u (toPy n a) as:=by
 intro n
 induction n with
 | zero =>
  intro v u a h d r
  cases a with
  | int i=>simp only [Den] at d;subst d;obtain ⟨t,rfl⟩:=r;exact ⟨_, .int i t⟩
  | bl b=>simp only [Den] at d;subst d;cases r;exact ⟨_, .bool b⟩
  | str x=>simp only [Den] at d;subst d;obtain ⟨t,rfl⟩:=r;exact ⟨_, .str x t⟩
  | non=>simp only [Den] at d;subst d;cases r;exact ⟨_, .none⟩
  | _=>cases h
 | succ n ih =>
  intro v u a h d r
  cases a with
  | int i=>simp only [Den] at d;subst d;obtain ⟨t,rfl⟩:=r;exact ⟨_, .int i t⟩
  | bl b=>simp only [Den] at d;subst d;cases r;exact ⟨_, .bool b⟩
  | str x=>simp only [Den] at d;subst d;obtain ⟨t,rfl⟩:=r;exact ⟨_, .str x t⟩
  | non=>simp only [Den] at d;subst d;cases r;exact ⟨_, .none⟩
  | tup ds =>
   simp only [Den] at d
   obtain ⟨p,xs,rfl,h2,h3⟩:=d
   cases r
   obtain ⟨its,rv,pl,hz⟩:=I.tuple (SqT.of h2)
   obtain ⟨as,q⟩:=readsAll n ih ds xs its h h3 rv
   obtain ⟨o,ho,hc,m,hd⟩:=(show s.heap.IsTuple p its.toArray from pl)
   exact ⟨_, .tuple ho hc hd (by simpa using q)⟩
  | lst ds =>
   simp only [Den] at d
   obtain ⟨p,xs,rfl,h2,h3⟩:=d
   cases r
   obtain ⟨its,rv,pl,hz⟩:=I.list (SqL.of h2)
   obtain ⟨as,q⟩:=readsAll n ih ds xs its h h3 rv
   obtain ⟨o,ho,hc,m,hd⟩:=pl.isList
   exact ⟨_, .list ho hc hd (by simpa using q)⟩
  | _=>cases h
end
def rEqA (K:PySem.W.Frag) (neg:Bool):R2:=fun x y H Q=>∃ ι a b,pur 8 a=true∧pur 8 b=true∧Den K H ι x a∧Den K H ι y b∧Q (.bl (if neg then !eqA 8 a b else eqA 8 a b)) H
theorem zmP {X:Cx} (hu:X.A.units + 64 < cLine):OpR X (compareOp .Eq) (rEqA X.K false):=by
 intro pins s σ H x y v u Q I rx ry h
 obtain ⟨ι,a,b,h1,h2,d1,d2,q⟩:=h
 obtain ⟨as,q1⟩:=zei I 8 x v a h1 d1 rx
 obtain ⟨bs,q2⟩:=zei I 8 y u b h2 d2 ry
 have e1:=zfc 8 a
 refine SeqAt.compareEq_reads q1 q2 (zek 8 a h1) (zek 8 b h2) (by omega) ?_
 rw [zhy 8 a b h1 h2]
 exact ⟨.bl (eqA 8 a b),H,I,rfl,q⟩
theorem zmD {X:Cx} (hu:X.A.units + 64 < cLine):OpR X (compareOp .NotEq) (rEqA X.K true):=by
 intro pins s σ H x y v u Q I rx ry h
 obtain ⟨ι,a,b,h1,h2,d1,d2,q⟩:=h
 obtain ⟨as,q1⟩:=zei I 8 x v a h1 d1 rx
 obtain ⟨bs,q2⟩:=zei I 8 y u b h2 d2 ry
 have e1:=zfc 8 a
 refine SeqAt.compareNe_reads q1 q2 (zek 8 a h1) (zek 8 b h2) (by omega) ?_
 rw [zhy 8 a b h1 h2]
 exact ⟨.bl (!eqA 8 a b),H,I,rfl,q⟩
def mapO (f:A→Option A):List A→Option (List A)
 | []=>some []
 | x :: xs=>match f x,mapO f xs with
  | some y,some ys=>some (y :: ys)
  | _,_=>none
def res (Ω:Sto):Nat→A→Option A
 | 0,a=>if pur 8 a=true then some a else none
 | n + 1,a=>if pur 8 a=true then some a else match a with
  | .tup ds=>(mapO (res Ω n) ds).map .tup
  | .lst ds=>(mapO (res Ω n) ds).map .lst
  | .cel k=>match Ω[k]? with
   | some (.lst ds)=>(mapO (res Ω n) ds).map .lst
   | _=>none
  | _=>none
section
variable {K:PySem.W.Frag} {G H:Hp} {ι:List Addr} {Ω:Sto}
theorem Wd.extH (w:Wd K G ι Ω H):Ext G ι H ι:=⟨w.sub,fun _ _ h=>h⟩
theorem zf0 {f:A→Option A} (ih:∀ v a b,Den K G ι v a→f a=some b→Den K H ι v b):∀ (ds es:List A) (xs:List V),DenL K G ι xs ds→mapO f ds=some es→DenL K H ι xs es
 | [],es,xs,d,h=>by
  simp only [mapO,Option.some.injEq] at h;subst h
  rw [zbP] at d ⊢;exact d
 | a :: ds,es,xs,d,h=>by
  obtain ⟨x,t,rfl,d1,d2⟩:=d.zch
  simp only [mapO] at h
  split at h
  ·rename_i y ys e1 e2
   cases h
   exact .cons (ih _ _ _ d1 e1) (zf0 ih ds ys t d2 e2)
  ·cases h
theorem zkP (w:Wd K G ι Ω H):∀ (n:Nat) (v:V) (a b:A),Den K G ι v a→res Ω n a=some b→Den K H ι v b:=by
 intro n
 induction n with
 | zero =>
  intro v a b d h
  simp only [res] at h
  split at h
  ·cases h;exact d.ext w.extH
  ·cases h
 | succ n ih =>
  intro v a b d h
  simp only [res] at h
  split at h
  ·cases h;exact d.ext w.extH
  ·split at h
   ·rename_i ds _
    simp only [Option.map_eq_some_iff] at h
    obtain ⟨es,h1,rfl⟩:=h
    simp only [Den] at d ⊢
    obtain ⟨p,xs,q1,q2,q3⟩:=d
    exact ⟨p,xs,q1,w.sub _ _ q2,zf0 ih ds es xs q3 h1⟩
   ·rename_i ds _
    simp only [Option.map_eq_some_iff] at h
    obtain ⟨es,h1,rfl⟩:=h
    simp only [Den] at d ⊢
    obtain ⟨p,xs,q1,q2,q3⟩:=d
    exact ⟨p,xs,q1,w.sub _ _ q2,zf0 ih ds es xs q3 h1⟩
   ·rename_i k _
    split at h
    ·rename_i ds e
     simp only [Option.map_eq_some_iff] at h
     obtain ⟨es,h1,rfl⟩:=h
     simp only [Den] at d ⊢
     obtain ⟨p,q1,q2⟩:=d
     obtain ⟨g,xs,q3,q4⟩:=w.cel k _ p e q2
     exact ⟨p,xs,q1,q3,zf0 ih ds es xs q4 h1⟩
    ·cases h
   ·cases h
end
def gEqB (neg:Bool) (a b:A):Mo A:=fun Ω=>match res Ω 6 a,res Ω 6 b with
 | some x,some y=>if (pur 8 x && pur 8 y)=true then some (.ok (.bl (if neg then !eqA 8 x y else eqA 8 x y)),Ω) else none
 | _,_=>none
def gEq:=gEqB false
def gNe:=gEqB true
section
variable {X:Cx} {W:WX} {e a b c:Expr} {pos:Pos} {fa fb fc:Ev→Mo A} {ta tb:Ev→Mo Bool}
theorem ziP {K:PySem.W.Frag} {neg:Bool}:OpV K W (rEqA K neg) (gEqB neg):=by
 intro G ι Ω H σ x y a b Q w d1 d2 h
 unfold gEqB at h
 split at h
 ·rename_i a' b' e1 e2
  split at h
  ·rename_i hp
   rw [Bool.and_eq_true] at hp
   exact ⟨ι,a',b',hp.1,hp.2,zkP w 6 x a a' d1 e1,zkP w 6 y b b' d2 e2,h _ H G ι (Ext.refl _ _) w (by simp only [Den])⟩
  ·exact False.elim h
 ·exact False.elim h
theorem o_eq (hu:X.A.units + 64 < cLine):OpOk X W (compareOp .Eq) gEq:=⟨_,zmP hu,ziP⟩
theorem o_ne (hu:X.A.units + 64 < cLine):OpOk X W (compareOp .NotEq) gNe:=⟨_,zmD hu,ziP⟩
@[simp] def gLt:=gI0 fun i j => .bl (decide (i < j))
@[simp] def gLe:=gI0 fun i j => .bl (decide (i ≤ j))
@[simp] def gGt:=gI0 fun i j => .bl (decide (j < i))
@[simp] def gGe:=gI0 fun i j => .bl (decide (j ≤ i))
theorem o_lt:OpOk X W (compareOp .Lt) gLt:=⟨_,zof,zgn fun _ _ _ _=>by simp only [Den]⟩
theorem o_le:OpOk X W (compareOp .LtE) gLe:=⟨_,zn4,zgn fun _ _ _ _=>by simp only [Den]⟩
theorem o_gt:OpOk X W (compareOp .Gt) gGt:=⟨_,zoI,zgn fun _ _ _ _=>by simp only [Den]⟩
theorem o_ge:OpOk X W (compareOp .GtE) gGe:=⟨_,zoo,zgn fun _ _ _ _=>by simp only [Den]⟩
def ziK:A→Option Bool
 | .non=>some true
 | _=>some false
@[simp] def znL:A→Mo Bool
 | .bl b=>ret b
 | _=>stuck
@[simp] def zaI (f:Ev→Mo A):Ev→Mo Bool:=fun ρ=>mb (f ρ) znL
theorem zhi {K:PySem.W.Frag} {t:TE} (h:Sim K (Den K) W t fa):Sim K relB W (znt t) (zaI fa):=by
 intro G ι Ω H σ ρ Q w r q
 refine h G ι Ω H σ ρ _ w r (Post.mb q fun x Ω1 v H1 G1 ι1 x1 w1 d1 h1=>?_)
 cases x with
 | bl b=>simp only [Den] at d1;exact ⟨b,d1,zbw w1 rfl h1⟩
 | _=>exact False.elim h1
theorem zkC {op:CmpOp} {g:A→A→Mo A} (ho:OpOk X W (compareOp op) g) (ha:VE X W a fa) (hb:VE X W b fb) (hm:behindInMarks op b=false):VE X W (.Compare a [op] [b] pos) (vOp g fa fb):=by
 obtain ⟨r,o1,o2⟩:=ho
 obtain ⟨t,p1,s1⟩:=ha
 obtain ⟨u,p2,s2⟩:=hb
 exact ⟨_,zmd o1 p1 p2 hm,zhA o2 s1 s2⟩
theorem zbx {op:CmpOp} {g:A→A→Mo A} (ho:OpOk X W (compareOp op) g) (ha:VE X W a fa) (hb:VE X W b fb) (hm:behindInMarks op b=false):VT X W (.Compare a [op] [b] pos) (zaI (vOp g fa fb)):=by
 obtain ⟨r,o1,o2⟩:=ho
 obtain ⟨t,p1,s1⟩:=ha
 obtain ⟨u,p2,s2⟩:=hb
 exact ⟨_,zlh o1 p1 p2 hm,zhi (zhA o2 s1 s2)⟩
@[simp] def zix (g g':A→A→Mo A) (f1 f2 f3:Ev→Mo A):Ev→Mo A:=fun ρ=>mb (f1 ρ) fun x=>mb (f2 ρ) fun y=>mb (g x y) fun z=>mb (znL z) fun k=>if k then mb (f3 ρ) fun u=>g' y u else ret (.bl false)
theorem zjt {K:PySem.W.Frag} {r r':R2} {g g':A→A→Mo A} {t1 t2 t3:TE} (ho:OpV K W r g) (ho':OpV K W r' g') (h1:Sim K (Den K) W t1 fa) (h2:Sim K (Den K) W t2 fb) (h3:Sim K (Den K) W t3 fc):Sim K (Den K) W (zkE r r' t1 t2 t3) (zix g g' fa fb fc):=by
 intro G ι Ω H σ ρ Q w q h
 refine h1 G ι Ω H σ ρ _ w q (Post.mb h fun x Ω1 v H1 G1 ι1 x1 w1 d1 h1=>?_)
 refine h2 G1 ι1 Ω1 H1 σ ρ _ w1 (q.ext x1) (Post.mb h1 fun y Ω2 u H2 G2 ι2 x2 w2 d2 h2=>?_)
 refine ho G2 ι2 Ω2 H2 σ v u x y _ w2 (d1.ext x2) d2 (Post.mb h2 fun z Ω3 z' H3 G3 ι3 x3 w3 d3 h3'=>?_)
 cases z with
 | bl k =>
  simp only [Den] at d3
  refine ⟨k,d3,?_⟩
  cases k with
  | true=>exact h3 G3 ι3 Ω3 H3 σ ρ _ w3 (q.ext ((x1.trans x2).trans x3)) (Post.mb h3' fun m Ω4 m' H4 G4 ι4 x4 w4 d4 h4=>ho' G4 ι4 Ω4 H4 σ u m' y m Q w4 (d2.ext (x3.trans x4)) d4 h4)
  | false=>exact zbw w3 (by simp only [Den]) h3'
 | _=>exact False.elim h3'
theorem zj0 {op op':CmpOp} {g g':A→A→Mo A} (ho:OpOk X W (compareOp op) g) (ho':OpOk X W (compareOp op') g') (ha:VE X W a fa) (hb:VE X W b fb) (hc:VE X W c fc)
  (hm:lastMarks [op,op'] [b,c]=false:=by with_unfolding_all rfl):VE X W (.Compare a [op,op'] [b,c] pos) (zix g g' fa fb fc):=by
 obtain ⟨r,o1,o2⟩:=ho
 obtain ⟨r',o1',o2'⟩:=ho'
 obtain ⟨t,p1,s1⟩:=ha
 obtain ⟨u,p2,s2⟩:=hb
 obtain ⟨u',p3,s3⟩:=hc
 exact ⟨_,zjQ o1 o1' p1 p2 p3 hm,zjt o2 o2' s1 s2 s3⟩
theorem zff (h:VE X W e fa) (he:∀ whole,isTrue e X.env whole=(do let v ← whole;standAt e.pos;holding [v] (truthy v)):=by intro _;rfl):VT X W e (zaI fa):=by
 obtain ⟨t,p,s⟩:=h
 exact ⟨_,znZ p he,zhi s⟩
@[simp] def vOrT (f g:Ev→Mo Bool):Ev→Mo Bool:=fun ρ=>mb (f ρ) fun c=>if c then ret true else g ρ
@[simp] def zhd (f:Ev→Mo Bool):Ev→Mo Bool:=fun ρ=>mb (f ρ) fun c=>ret (!c)
variable {rest:List Expr}
theorem ziu (h:VT X W a ta):VW X W (.BoolOp .Or [a] pos) ta:=let ⟨t,p,s⟩:=h; ⟨t,pw_or1 p,s⟩
theorem zlw (h1:VT X W a ta) (h2:VW X W (.BoolOp .Or (b :: rest) pos) tb):VW X W (.BoolOp .Or (a :: b :: rest) pos) (vOrT ta tb):=by
 obtain ⟨t,p1,s1⟩:=h1
 obtain ⟨u,p2,s2⟩:=h2
 refine ⟨_,pw_or p1 p2,fun G ι Ω H σ ρ Q w r h=>?_⟩
 refine s1 G ι Ω H σ ρ _ w r (Post.mb h fun c Ω1 c' H1 G1 ι1 x1 w1 d1 h1=>?_)
 cases (show c'=c from d1)
 cases c with
 | false=>exact s2 G1 ι1 Ω1 H1 σ ρ Q w1 (r.ext x1) h1
 | true=>exact zbw w1 rfl h1
theorem VW.vt (h:VW X W e ta):VT X W e ta:=let ⟨t,p,s⟩:=h; ⟨t,p.pt,s⟩
theorem zgu (h:VT X W a ta):VT X W (.UnaryOp .Not a pos) (zhd ta):=by
 obtain ⟨t,p,s⟩:=h
 refine ⟨_,zmV p,fun G ι Ω H σ ρ Q w r h=>?_⟩
 refine s G ι Ω H σ ρ _ w r (Post.mb h fun c Ω1 c' H1 G1 ι1 x1 w1 d1 h1=>?_)
 cases (show c'=c from d1)
 exact zbw w1 rfl h1
@[simp] def vNeg (f:Ev→Mo A):Ev→Mo A:=fun ρ=>mb (f ρ) fun x=>match x with
 | .int i=>ret (.int (-i))
 | _=>stuck
theorem znH (h:VE X W a fa):VE X W (.UnaryOp .USub a pos) (vNeg fa):=by
 obtain ⟨t,p,s⟩:=h
 refine ⟨_,zod zm3 p,fun G ι Ω H σ ρ Q w r h=>?_⟩
 refine s G ι Ω H σ ρ _ w r (Post.mb h fun x Ω1 v H1 G1 ι1 x1 w1 d1 h1=>?_)
 cases x with
 | int c =>
  simp only [Den] at d1
  exact ⟨c,d1,zbw w1 (by simp only [Den]) h1⟩
 | _=>exact False.elim h1
end
end V2
namespace V2
open PySem PySem.Spec PyProof.Rows L2
inductive Out where
 | nx | bk | ct | ret (a:A) | exc (x:Exc)
abbrev OS:=Option (Out × Ev × Sto)
abbrev MS:=Ev→Sto→OS
def OutS (K:PySem.W.Frag) (W:WX) (G:Hp) (ι:List Addr) (D:Ends) (σ:L2.St) (H:Hp):Out→Prop
 | .nx=>D.nx σ H
 | .bk=>D.bk σ H
 | .ct=>D.ct σ H
 | .ret a=>∀ v,Den K G ι v a→D.rt v H
 | .exc x=>∀ cls dx,ExcR K G ι H x cls dx→W σ cls dx H
def za9 (K:PySem.W.Frag) (W:WX) (G:Hp) (ι:List Addr) (D:Ends):OS→Prop
 | some (o,ρ',Ω')=>∀ σ' H' G' ι',Ext G ι G' ι'→Wd K G' ι' Ω' H'→EnvR K G' ι' σ' ρ'→OutS K W G' ι' D σ' H' o
 | none=>False
@[simp] def sM {α:Type} (m:Mo α) (ρ:Ev) (k:α→Sto→OS):Sto→OS:=fun Ω=>match m Ω with
 | some (.ok a,Ω1)=>k a Ω1
 | some (.exc x,Ω1)=>some (.exc x,ρ,Ω1)
 | none=>none
section
variable {K:PySem.W.Frag} {W:WX} {G:Hp} {ι:List Addr} {Ω:Sto} {σ:L2.St} {ρ:Ev} {D:Ends}
theorem za9.ext {G1:Hp} {ι1:List Addr} {r:OS} (h:za9 K W G ι D r) (e:Ext G ι G1 ι1):za9 K W G1 ι1 D r:=by
 match r,h with
 | some (o,ρ',Ω'),h=>exact fun σ' H' G' ι' x w d=>h σ' H' G' ι' (e.trans x) w d
theorem za9.sM {α β:Type} {rel:Rl α β} {m:Mo α} {k:α→Sto→OS} {Q1:β→Hp→Prop} (h:za9 K W G ι D (V2.sM m ρ k Ω)) (r:EnvR K G ι σ ρ)
  (hk:∀ a Ω1 v H1 G1 ι1,Ext G ι G1 ι1→Wd K G1 ι1 Ω1 H1→rel G1 ι1 v a→za9 K W G1 ι1 D (k a Ω1)→Q1 v H1):Post K rel W G ι σ Q1 (m Ω):=by
 unfold V2.sM at h
 revert h
 generalize m Ω=q
 intro h
 match q,h with
 | some (.ok a,Ω1),h=>exact fun v H1 G1 ι1 x w d=>hk a Ω1 v H1 G1 ι1 x w d (za9.ext h x)
 | some (.exc x,Ω1),h=>exact fun cls dx H' G' ι' e w d=>h σ H' G' ι' e w (r.ext e) cls dx d
end
def SimS (K:PySem.W.Frag) (W:WX) (t:TS) (f:MS):Prop:=∀ G ι Ω H σ ρ D,Wd K G ι Ω H→EnvR K G ι σ ρ→za9 K W G ι D (f ρ Ω)→t D σ H
def VS (X:Cx) (W:WX) (st:Stmt) (f:MS):Prop:=∃ t,PS X st t∧SimS X.K W t f
def VSs (X:Cx) (W:WX) (st:List Stmt) (f:MS):Prop:=∃ t,PSs X st t∧SimS X.K W t f
def SimG (K:PySem.W.Frag) (W:WX) (t:TG) (g:A→MS):Prop:=∀ G ι Ω H σ ρ v a D,Wd K G ι Ω H→EnvR K G ι σ ρ→Den K G ι v a→za9 K W G ι D (g a ρ Ω)→t v σ H D.nx
def zov (K:PySem.W.Frag) (W:WX) (t:TGs) (g:List A→MS):Prop:=∀ G ι Ω H σ ρ vs as D,Wd K G ι Ω H→EnvR K G ι σ ρ→DenL K G ι vs as→za9 K W G ι D (g as ρ Ω)→t vs σ H D.nx
def VG (X:Cx) (W:WX) (tg:Expr) (g:A→MS):Prop:=∃ t,PG X tg t∧SimG X.K W t g
def VGs (X:Cx) (W:WX) (tgs:List Expr) (g:List A→MS):Prop:=∃ t,PGs X tgs t∧zov X.K W t g
@[simp] def sNx:MS:=fun ρ Ω=>some (.nx,ρ,Ω)
@[simp] def sSeq (f g:MS):MS:=fun ρ Ω=>match f ρ Ω with
 | some (.nx,ρ1,Ω1)=>g ρ1 Ω1
 | r=>r
section
variable {X:Cx} {W:WX} {st:Stmt} {rest:List Stmt} {f g:MS} {e:Expr} {fe:Ev→Mo A} {pos:Pos}
theorem zgy {K:PySem.W.Frag} {G H:Hp} {ι:List Addr} {Ω:Sto} {σ:L2.St} {ρ:Ev} {D:Ends} (w:Wd K G ι Ω H) (r:EnvR K G ι σ ρ) (h:za9 K W G ι D (some (.nx,ρ,Ω))):D.nx σ H:=h σ H G ι (Ext.refl _ _) w r
theorem zaR:VSs X W [] sNx:=⟨_,zmg,fun _ _ _ _ _ _ _ w r h=>zgy w r h⟩
theorem zjl {K:PySem.W.Frag} {t u:TS} (h1:SimS K W t f) (h2:SimS K W u g):SimS K W (tSeq t u) (sSeq f g):=by
 intro G ι Ω H σ ρ D w r h
 refine h1 G ι Ω H σ ρ _ w r ?_
 unfold sSeq at h
 revert h
 generalize f ρ Ω=q
 intro h
 match q,h with
 | some (.nx,ρ1,Ω1),h=>exact fun σ' H' G' ι' x w' r'=>h2 G' ι' Ω1 H' σ' ρ1 D w' r' (za9.ext h x)
 | some (.bk,ρ1,Ω1),h=>exact h
 | some (.ct,ρ1,Ω1),h=>exact h
 | some (.ret a,ρ1,Ω1),h=>exact h
 | some (.exc a,ρ1,Ω1),h=>exact h
theorem zae (h1:VS X W st f) (h2:VSs X W rest g):VSs X W (st :: rest) (sSeq f g):=by
 obtain ⟨t,p1,s1⟩:=h1
 obtain ⟨u,p2,s2⟩:=h2
 exact ⟨_,zkr p1 p2,zjl s1 s2⟩
theorem zai (h1:VS X W st f):VSs X W [st] f:=let ⟨t,p,s⟩:=h1; ⟨t,zkW p,s⟩
@[simp] def sExp (fe:Ev→Mo A):MS:=fun ρ=>sM (fe ρ) ρ fun _ Ω=>some (.nx,ρ,Ω)
theorem zcV (h:VE X W e fe) (hs:swapsWith e none pos.line X.env=pure false:=by rfl):VS X W (.Expr e pos) (sExp fe):=by
 obtain ⟨t,p,s⟩:=h
 refine ⟨_,zlk p hs,fun G ι Ω H σ ρ D w r h=>?_⟩
 exact s G ι Ω H σ ρ _ w r (za9.sM h r fun a Ω1 v H1 G1 ι1 x1 w1 d1 h1=>zgy w1 (r.ext x1) h1)
@[simp] def sRet (fe:Ev→Mo A):MS:=fun ρ=>sM (fe ρ) ρ fun a Ω=>some (.ret a,ρ,Ω)
theorem zaS (h:VE X W e fe):VS X W (.Return (some e) pos) (sRet fe):=by
 obtain ⟨t,p,s⟩:=h
 refine ⟨_,zmH p,fun G ι Ω H σ ρ D w r h=>?_⟩
 exact s G ι Ω H σ ρ _ w r (za9.sM h r fun a Ω1 v H1 G1 ι1 x1 w1 d1 h1=>h1 σ H1 G1 ι1 (Ext.refl _ _) w1 (r.ext x1) v d1)
@[simp] def sIf (c:Ev→Mo Bool) (f g:MS):MS:=fun ρ=>sM (c ρ) ρ fun b Ω=>if b then f ρ Ω else g ρ Ω
theorem zcu {c:Expr} {a b:List Stmt} {fc:Ev→Mo Bool} (hc:VT X W c fc) (h1:VSs X W a f) (h2:VSs X W b g):VS X W (.If c a b pos) (sIf fc f g):=by
 obtain ⟨t0,p0,s0⟩:=hc
 obtain ⟨t,p1,s1⟩:=h1
 obtain ⟨u,p2,s2⟩:=h2
 refine ⟨_,zoA p0 p1 p2,fun G ι Ω H σ ρ D w r h=>?_⟩
 refine s0 G ι Ω H σ ρ _ w r (za9.sM h r fun c Ω1 c' H1 G1 ι1 x1 w1 d1 h1=>?_)
 cases (show c'=c from d1)
 cases c with
 | true=>exact s1 G1 ι1 Ω1 H1 σ ρ D w1 (r.ext x1) h1
 | false=>exact s2 G1 ι1 Ω1 H1 σ ρ D w1 (r.ext x1) h1
@[simp] def gN (i:Nat):A→MS:=fun a ρ Ω=>some (.nx,ρ.set i (some a),Ω)
theorem zbJ {i:Nat} {x:Str} (hN:X.N.Nodup) (hi:X.N[i]? = some x) (hx:Loc X.env.scope x) (hf:X.fn x=true∨X.env.scope.names.lookup x=some .local:=by first | exact .inl rfl | exact .inr rfl | assumption):VG X W (.Name x pos) (gN i) :=
 ⟨_,zkZ hN hi hx hf,fun _ _ _ _ _ _ _ _ _ w r d h=>zgy w (r.set i d) h⟩
@[simp] def zli:List A→MS:=fun as ρ Ω=>match as with
 | []=>some (.nx,ρ,Ω)
 | _=>none
@[simp] def zdg (g:A→MS) (gs:List A→MS):List A→MS:=fun as=>match as with
 | a :: r=>sSeq (g a) (gs r)
 | []=>fun _ _=>none
theorem zlm:VGs X W [] zli:=⟨_,zlc,fun G ι Ω H σ ρ vs as D w r d h=>by
 cases as with
 | nil=>rw [zbP] at d;exact ⟨d,zgy w r h⟩
 | cons=>exact False.elim h⟩
theorem zel {es:List Expr} {g:A→MS} {gs:List A→MS} (h1:VG X W e g) (h2:VGs X W es gs)
  (hs:(assignEach (e :: es) X.env).map (·.2)=assign e X.env :: (assignEach es X.env).map (·.2):=by rfl):VGs X W (e :: es) (zdg g gs):=by
 obtain ⟨t,p1,s1⟩:=h1
 obtain ⟨u,p2,s2⟩:=h2
 refine ⟨_,zkt p1 p2 hs,fun G ι Ω H σ ρ vs as D w r d h=>?_⟩
 cases as with
 | nil=>exact False.elim h
 | cons a as =>
  obtain ⟨x,xs,rfl,d1,d2⟩:=d.zch
  refine ⟨x,xs,rfl,s1 G ι Ω H σ ρ x a { D with nx:=fun σ' H'=>u xs σ' H' D.nx } w r d1 ?_⟩
  simp only [zdg,sSeq] at h
  revert h
  generalize g a ρ Ω=q
  intro h
  match q,h with
  | some (.nx,ρ1,Ω1),h=>exact fun σ' H' G' ι' x w' r'=>s2 G' ι' Ω1 H' σ' ρ1 xs as D w' r' (d2.ext x) (za9.ext h x)
  | some (.bk,ρ1,Ω1),h=>exact h
  | some (.ct,ρ1,Ω1),h=>exact h
  | some (.ret a,ρ1,Ω1),h=>exact h
  | some (.exc a,ρ1,Ω1),h=>exact h
@[simp] def zjM (n:Nat) (gs:List A→MS):A→MS:=fun a ρ Ω=>match a with
 | .tup ds=>if ds.length=n then gs ds ρ Ω else none
 | _=>none
theorem znf {es:List Expr} {k:Nat} {n:Nat} {gs:List A→MS} (hc:X.calm=true) (h:VGs X W es gs)
  (hn:(assignEach es X.env).length=n:=by rfl) (hst:(assignEach es X.env).findIdx? (·.1)=none:=by rfl):VG X W (.Tuple es k pos) (zjM n gs):=by
 obtain ⟨t,p,s⟩:=h
 refine ⟨_,znr hc p hn hst,fun G ι Ω H σ ρ v a D w r d h=>?_⟩
 unfold zjM at h
 cases a with
 | tup ds =>
  simp only at h
  by_cases hl:ds.length=n
  ·rw [if_pos hl] at h
   simp only [Den] at d
   obtain ⟨p,xs,rfl,h2,h3⟩:=d
   exact ⟨p,xs,rfl,SqT.of (w.sub _ _ h2),by rw [h3.length];exact hl,s G ι Ω H σ ρ xs ds D w r h3 h⟩
  ·rw [if_neg hl] at h;exact False.elim h
 | _=>exact False.elim h
@[simp] def setCell (o i v:A) (Ω:Sto):Option Sto:=match o,i with
 | .cel k, .int n=>match Ω[k]? with
  | some (.lst ds)=>match ixN ds.length n with
   | some j=>some (Ω.set k (.lst (ds.set j v)))
   | none=>none
  | _=>none
 | _,_=>none
@[simp] def zlH (fo fi:Ev→Mo A):A→MS:=fun a ρ=>sM (fo ρ) ρ fun o=>sM (fi ρ) ρ fun i Ω=>match setCell o i a Ω with
 | some Ω'=>some (.nx,ρ,Ω')
 | none=>none
theorem znn {o i:Expr} {fo fi:Ev→Mo A} (ho:VE X W o fo) (hi:VE X W i fi)
  (ha:∀ v,assign (.Subscript o i pos) X.env v=(do
   let ov ← holding [v] (eval o X.env)
   let iv ← holding [v,ov] (eval i X.env)
   standAt pos
   holding [v,ov,iv] (setItem ov iv v)
   release [v,ov,iv] []):=by intro _;rfl):VG X W (.Subscript o i pos) (zlH fo fi):=by
 obtain ⟨t,p1,s1⟩:=ho
 obtain ⟨u,p2,s2⟩:=hi
 refine ⟨_,znY p1 p2 set_list ha,fun G ι Ω H σ ρ v a D w r d h=>?_⟩
 refine s1 G ι Ω H σ ρ _ w r (za9.sM h r fun x Ω1 v1 H1 G1 ι1 x1 w1 d1 h1=>?_)
 refine s2 G1 ι1 Ω1 H1 σ ρ _ w1 (r.ext x1) (za9.sM h1 (r.ext x1) fun y Ω2 v2 H2 G2 ι2 x2 w2 d2 h2=>?_)
 unfold setCell at h2
 cases x with
 | cel k =>
  cases y with
  | int n =>
   simp only at h2
   cases e:Ω2[k]? with
   | none=>rw [e] at h2;exact False.elim h2
   | some c =>
    rw [e] at h2
    cases c with
    | lst ds =>
     simp only at h2
     cases e2:ixN ds.length n with
     | none=>rw [e2] at h2;exact False.elim h2
     | some j =>
      rw [e2] at h2
      have d1':=d1.ext x2
      simp only [Den] at d1' d2
      obtain ⟨p,rfl,hk⟩:=d1'
      obtain ⟨gg,xs,h5,h6⟩:=w2.cel k _ p e hk
      refine ⟨p,xs,n,j,rfl,d2,h5,by rw [h6.length];exact e2,?_⟩
      refine zgy (w2.put (c := .lst (ds.set j a)) hk gg ⟨gg,_,zaw,?_⟩) (r.ext (x1.trans x2)) h2
      exact DenL.set (d.ext (x1.trans x2)) j h6
    | _=>exact False.elim h2
  | _=>exact False.elim h2
 | _=>exact False.elim h2
@[simp] def sAsg (fe:Ev→Mo A) (g:A→MS):MS:=fun ρ=>sM (fe ρ) ρ fun a Ω=>g a ρ Ω
theorem ziq {K:PySem.W.Frag} {te:TE} {t:TG} {g:A→MS} (h1:Sim K (Den K) W te fe) (h2:SimG K W t g):SimS K W (tAsg te t) (sAsg fe g):=by
 intro G ι Ω H σ ρ D w r h
 exact h1 G ι Ω H σ ρ _ w r (za9.sM h r fun a Ω1 v H1 G1 ι1 x1 w1 d1 h1=>h2 G1 ι1 Ω1 H1 σ ρ v a D w1 (r.ext x1) d1 h1)
theorem zm7 {tg:Expr} {g:A→MS} (he:VE X W e fe) (hg:VG X W tg g) (hs:swapsWithSole [tg] e pos.line X.env=pure false:=by rfl) (hw:swappedStores [tg] e X.env=pure none:=by rfl)
  (h1:(assignEach [tg] X.env).map (·.2)=[assign tg X.env]:=by rfl):VS X W (.Assign [tg] e pos) (sAsg fe g):=by
 obtain ⟨t,p1,s1⟩:=he
 obtain ⟨u,p2,s2⟩:=hg
 exact ⟨_,znB p1 p2 hs hw h1,ziq s1 s2⟩
theorem zaz {i:Nat} {x:Str} {pos':Pos} (hN:X.N.Nodup) (hi:X.N[i]? = some x) (hx:Loc X.env.scope x) (he:VE X W e fe) (hs:swapsWith e (some (.Name x pos')) pos.line X.env=pure false:=by rfl) (hf:X.fn x=true∨X.env.scope.names.lookup x=some .local:=by first | exact .inl rfl | exact .inr rfl | assumption) :
  VS X W (.Assign [.Name x pos'] e pos) (sAsg fe (gN i)):=by
 obtain ⟨t,p1,s1⟩:=he
 exact ⟨_,znE hN hi hx p1 hs hf,ziq s1 fun _ _ _ _ _ _ _ _ _ w r d h=>zgy w (r.set i d) h⟩
structure Src where
 ds:List A
 ok:Sto→Prop
structure ItV (K:PySem.W.Frag) (G:Hp) (ι:List Addr) (J:It) (S:Src):Prop where
 go:∀ G' ι' Ω' H',Ext G ι G' ι'→Wd K G' ι' Ω' H'→S.ok Ω'→∀ i,i < S.ds.length→J.go i H'
 stop:∀ G' ι' Ω' H',Ext G ι G' ι'→Wd K G' ι' Ω' H'→S.ok Ω'→∀ i,S.ds.length ≤ i→J.stop i H'
 yld:∀ G' ι' Ω' H',Ext G ι G' ι'→Wd K G' ι' Ω' H'→S.ok Ω'→∀ i x H2 d,S.ds[i]? = some d→J.yld i H' x H2→∃ G2,Ext G' ι' G2 ι'∧Wd K G2 ι' Ω' H2∧Den K G2 ι' x d
def relI (K:PySem.W.Frag):Rl Src It:=fun G ι J S=>ItV K G ι J S
theorem ItV.ext {K:PySem.W.Frag} {G G1:Hp} {ι ι1:List Addr} {J:It} {S:Src} (h:ItV K G ι J S) (e:Ext G ι G1 ι1):ItV K G1 ι1 J S :=
 ⟨fun G' ι' Ω' H' x=>h.go G' ι' Ω' H' (e.trans x),fun G' ι' Ω' H' x=>h.stop G' ι' Ω' H' (e.trans x),fun G' ι' Ω' H' x=>h.yld G' ι' Ω' H' (e.trans x)⟩
def VI (X:Cx) (W:WX) (tg iter:Expr) (f:Ev→Mo Src):Prop:=∃ t,PI X tg iter t∧Sim X.K (relI X.K) W t f
open Classical in
noncomputable def fFor (ok:Sto→Prop) (g:A→MS) (b:MS):List A→MS
 | [],ρ,Ω=>if ok Ω then some (.nx,ρ,Ω) else none
 | x :: xs,ρ,Ω=>if ok Ω then (match g x ρ Ω with
  | some (.nx,ρ0,Ω0)=>(match b ρ0 Ω0 with
   | some (.nx,ρ1,Ω1)=>fFor ok g b xs ρ1 Ω1
   | some (.ct,ρ1,Ω1)=>fFor ok g b xs ρ1 Ω1
   | some (.bk,ρ1,Ω1)=>some (.nx,ρ1,Ω1)
   | r=>r)
  | some (.exc e,ρ0,Ω0)=>some (.exc e,ρ0,Ω0)
  | _=>none) else none
@[simp] noncomputable def sFor (fi:Ev→Mo Src) (g:A→MS) (b:MS):MS:=fun ρ=>sM (fi ρ) ρ fun S Ω=>fFor S.ok g b S.ds ρ Ω
theorem zlE {K:PySem.W.Frag} {G:Hp} {ι:List Addr} {D:Ends} {ok:Sto→Prop} {g:A→MS} {b:MS} {xs:List A} {ρ:Ev} {Ω:Sto} (h:za9 K W G ι D (fFor ok g b xs ρ Ω)):ok Ω:=by
 cases xs with
 | nil =>
  unfold fFor at h
  by_cases hp:ok Ω
  ·exact hp
  ·rw [if_neg hp] at h;exact False.elim h
 | cons =>
  unfold fFor at h
  by_cases hp:ok Ω
  ·exact hp
  ·rw [if_neg hp] at h;exact False.elim h
theorem zlU {K:PySem.W.Frag} {wi:TI} {tg:TG} {tb:TS} {fi:Ev→Mo Src} {g:A→MS} {b:MS} (hi:Sim K (relI K) W wi fi) (hg:SimG K W tg g) (hb:SimS K W tb b):SimS K W (tFor wi tg tb) (sFor fi g b):=by
 intro G ι Ω H σ ρ D w r h
 refine hi G ι Ω H σ ρ _ w r (za9.sM h r fun S Ω1 J H1 G1 ι1 x1 w1 j1 h1=>?_)
 refine ⟨fun i m σ' H'=>m=S.ds.length - i∧i ≤ S.ds.length∧∃ G' ι' Ω' ρ',Ext G1 ι1 G' ι'∧Wd K G' ι' Ω' H'∧EnvR K G' ι' σ' ρ'∧za9 K W G' ι' D (fFor S.ok g b (S.ds.drop i) ρ' Ω'),
  ⟨_,rfl,Nat.zero_le _,G1,ι1,Ω1,ρ,Ext.refl _ _,w1,r.ext x1,by simpa using h1⟩,?_⟩
 rintro i m σ' H' ⟨rfl,hil,G',ι',Ω',ρ',e',w',r',h'⟩
 have hok:=zlE h'
 by_cases hlt:i < S.ds.length
 ·right
  refine ⟨j1.go G' ι' Ω' H' e' w' hok i hlt,fun σ2 H2=>∃ G2 ι2 Ω2 ρ2,Ext G1 ι1 G2 ι2∧Wd K G2 ι2 Ω2 H2∧EnvR K G2 ι2 σ2 ρ2∧za9 K W G2 ι2 D (fFor S.ok g b (S.ds.drop (i + 1)) ρ2 Ω2),fun σ2 H2 n=>?_,fun x H2 y=>?_⟩
  ·exact ⟨S.ds.length - (i + 1),by omega,rfl,hlt,n⟩
  ·obtain ⟨G2,e2,w2,d2⟩:=j1.yld G' ι' Ω' H' e' w' hok i x H2 S.ds[i] (List.getElem?_eq_getElem hlt) y
   rw [List.drop_eq_getElem_cons hlt] at h'
   unfold fFor at h'
   rw [if_pos hok] at h'
   refine hg G2 ι' Ω' H2 σ' ρ' x S.ds[i] { D with nx:=fun σ3 H3=>tb _ σ3 H3 } w2 (r'.ext e2) d2 ?_
   revert h'
   generalize g S.ds[i] ρ' Ω'=q
   intro h'
   match q,h' with
   | some (.nx,ρ3,Ω3),h' =>
    intro σ3 H3 G3 ι3 x3 w3 r3
    refine hb G3 ι3 Ω3 H3 σ3 ρ3 _ w3 r3 ?_
    simp only at h'
    revert h'
    generalize b ρ3 Ω3=q2
    intro h'
    match q2,h' with
    | some (.nx,ρ4,Ω4),h'=>exact fun σ4 H4 G4 ι4 x4 w4 r4=>⟨G4,ι4,Ω4,ρ4,(e'.trans (e2.trans x3)).trans x4,w4,r4,za9.ext h' ((e2.trans x3).trans x4)⟩
    | some (.ct,ρ4,Ω4),h'=>exact fun σ4 H4 G4 ι4 x4 w4 r4=>⟨G4,ι4,Ω4,ρ4,(e'.trans (e2.trans x3)).trans x4,w4,r4,za9.ext h' ((e2.trans x3).trans x4)⟩
    | some (.bk,ρ4,Ω4),h'=>exact fun σ4 H4 G4 ι4 x4 w4 r4=>h' σ4 H4 G4 ι4 ((e2.trans x3).trans x4) w4 r4
    | some (.ret a,ρ4,Ω4),h'=>exact fun σ4 H4 G4 ι4 x4 w4 r4=>h' σ4 H4 G4 ι4 ((e2.trans x3).trans x4) w4 r4
    | some (.exc a,ρ4,Ω4),h'=>exact fun σ4 H4 G4 ι4 x4 w4 r4=>h' σ4 H4 G4 ι4 ((e2.trans x3).trans x4) w4 r4
   | some (.exc a,ρ3,Ω3),h'=>exact fun σ4 H4 G4 ι4 x4 w4 r4=>h' σ4 H4 G4 ι4 (e2.trans x4) w4 r4
 ·have hie:i=S.ds.length:=by omega
  subst hie
  left
  rw [List.drop_length] at h'
  unfold fFor at h'
  rw [if_pos hok] at h'
  exact ⟨j1.stop G' ι' Ω' H' e' w' hok _ (Nat.le_refl _),zgy w' r' h'⟩
theorem zec {tg iter:Expr} {body:List Stmt} {fi:Ev→Mo Src} {g:A→MS} {b:MS} (hp:PassesOwn (model X.prog X.w) X.A X.env X.xe) (hc:X.calm=true) (hi:VI X W tg iter fi) (hg:VG X W tg g) (hb:VSs X W body b)
  (hs:∀ x,foldedSetIterable iter X.env x=pure x:=by intro _;rfl):VS X W (.For tg iter body [] pos) (sFor fi g b):=by
 obtain ⟨t1,p1,s1⟩:=hi
 obtain ⟨t2,p2,s2⟩:=hg
 obtain ⟨t3,p3,s3⟩:=hb
 exact ⟨_,znO hp hc p1 p2 p3 hs,zlU s1 s2 s3⟩
@[simp] def srcOf (a:A) (ds:List A):Src:=⟨ds,fun Ω=>za7 Ω a=some ds⟩
theorem zgv {Ω:Sto} {a:A} {ds:List A} (h:za7 Ω a=some ds) (ha:∀ es,a ≠ .tup es):zar Ω a=some ds:=by
 cases a with
 | tup es=>exact absurd rfl (ha es)
 | _=>exact h
theorem zni {tg l:Expr} {tl:TE} (hl:PE X l tl):PI X tg l (fun σ H R=>tl σ H fun x H1=>∃ a,x = .ref a∧(((∃ xs,SqL X.K H1 a xs)∧R (Itl X.K a) H1)∨((∃ xs,SqT X.K H1 a xs)∧R (Itt X.K a) H1))):=by
 intro pins s σ H R I h
 refine thn (hl pins s σ H _ I h) fun v s1 ⟨x,H1,I1,r1,q1⟩=>?_
 obtain ⟨a,e,q⟩:=q1
 subst e
 cases r1
 rcases q with ⟨⟨xs,hq⟩,q⟩ | ⟨⟨xs,hq⟩,q⟩
 ·obtain ⟨its,rv,p,hz⟩:=I1.list hq
  refine wpAny_pyIter_list p.isList ?_
  refine ⟨s1.heap.objs.size,[s1.heap.objs.size],_,_,H1,rfl,I1.kept (t':=s1.toks) fun b o e=>Heap.get?_push_of_some _ e,zis a _,⟨_,Heap.get?_push_size _ rfl,rfl,rfl⟩,fun b hb=>?_,q⟩
  have e:b=s1.heap.objs.size:=by simpa using hb
  subst e
  exact I1.fpOk (Nat.le_refl _) (I1.hok.fresh (Nat.le_refl _))
 ·obtain ⟨its,rv,p,hz⟩:=I1.tuple hq
  refine wpAny_pyIter_tuple (show s1.heap.IsTuple a its.toArray from p) ?_
  refine ⟨s1.heap.objs.size,[s1.heap.objs.size],_,_,H1,rfl,I1.kept (t':=s1.toks) fun b o e=>Heap.get?_push_of_some _ e,zh2 a _,⟨_,Heap.get?_push_size _ rfl,rfl,rfl⟩,fun b hb=>?_,q⟩
  have e:b=s1.heap.objs.size:=by simpa using hb
  subst e
  exact I1.fpOk (Nat.le_refl _) (I1.hok.fresh (Nat.le_refl _))
@[simp] def vSeq (f:Ev→Mo A):Ev→Mo Src:=fun ρ=>mb (f ρ) fun a Ω=>match za7 Ω a with
 | some ds=>some (.ok (srcOf a ds),Ω)
 | none=>none
theorem zlO {K:PySem.W.Frag} {G:Hp} {ι:List Addr} {p:Addr} {a:A} {ds:List A} (d:Den K G ι (.ref p) a) (ha:∀ es,a ≠ .tup es):ItV K G ι (Itl K p) (srcOf a ds):=by
 have key:∀ G' ι' Ω' H',Ext G ι G' ι'→Wd K G' ι' Ω' H'→za7 Ω' a=some ds→∃ xs,SqL K H' p xs∧DenL K G' ι' xs ds:=fun G' ι' Ω' H' e w h=>by
  obtain ⟨q,xs,h1,h2,h3⟩:=zbR w (d.ext e) (zgv h ha)
  cases h1
  exact ⟨xs,h2,h3⟩
 refine ⟨fun G' ι' Ω' H' e w h i hi=>?_,fun G' ι' Ω' H' e w h i hi=>?_,fun G' ι' Ω' H' e w h i x H2 y hy hd=>?_⟩
 ·obtain ⟨xs,h2,h3⟩:=key G' ι' Ω' H' e w h
  have hl:i < xs.length:=by rw [h3.length];exact hi
  exact ⟨xs,xs[i],h2,List.getElem?_eq_getElem hl⟩
 ·obtain ⟨xs,h2,h3⟩:=key G' ι' Ω' H' e w h
  exact ⟨xs,h2,by rw [h3.length];exact hi⟩
 ·obtain ⟨xs,h2,h3⟩:=key G' ι' Ω' H' e w h
  obtain ⟨e1,e2⟩:=hd
  subst e1
  obtain ⟨z,q1,q2⟩:=h3.get hy
  rw [e2 xs h2] at q1
  cases q1
  exact ⟨G',Ext.refl _ _,w,q2⟩
theorem zmk {K:PySem.W.Frag} {G:Hp} {ι:List Addr} {p:Addr} {ds es:List A} (d:Den K G ι (.ref p) (.tup es)):ItV K G ι (Itt K p) (srcOf (.tup es) ds):=by
 have key:∀ G' ι' Ω' H',Ext G ι G' ι'→Wd K G' ι' Ω' H'→za7 Ω' (.tup es)=some ds→∃ xs,SqT K H' p xs∧DenL K G' ι' xs ds:=fun G' ι' Ω' H' e w h=>by
  simp only [za7,Option.some.injEq] at h
  subst h
  have d':=d.ext e
  simp only [Den] at d'
  obtain ⟨q,xs,h1,h2,h3⟩:=d'
  cases h1
  exact ⟨xs,SqT.of (w.sub _ _ h2),h3⟩
 refine ⟨fun G' ι' Ω' H' e w h i hi=>?_,fun G' ι' Ω' H' e w h i hi=>?_,fun G' ι' Ω' H' e w h i x H2 y hy hd=>?_⟩
 ·obtain ⟨xs,h2,h3⟩:=key G' ι' Ω' H' e w h
  have hl:i < xs.length:=by rw [h3.length];exact hi
  exact ⟨xs,xs[i],h2,List.getElem?_eq_getElem hl⟩
 ·obtain ⟨xs,h2,h3⟩:=key G' ι' Ω' H' e w h
  exact ⟨xs,h2,by rw [h3.length];exact hi⟩
 ·obtain ⟨xs,h2,h3⟩:=key G' ι' Ω' H' e w h
  obtain ⟨e1,e2⟩:=hd
  subst e1
  obtain ⟨z,q1,q2⟩:=h3.get hy
  rw [e2 xs h2] at q1
  cases q1
  exact ⟨G',Ext.refl _ _,w,q2⟩
theorem zi0 {tg l:Expr} {fe:Ev→Mo A} (h:VE X W l fe):VI X W tg l (vSeq fe):=by
 obtain ⟨t,p,s⟩:=h
 refine ⟨_,zni p,fun G ι Ω H σ ρ R w r h=>?_⟩
 refine s G ι Ω H σ ρ _ w r (Post.mb h fun a Ω1 v H1 G1 ι1 x1 w1 d1 h1=>?_)
 cases e:za7 Ω1 a with
 | none=>simp only [e] at h1;exact False.elim h1
 | some ds =>
  simp only [e] at h1
  obtain ⟨q,xs,h2,h3,h4⟩:=zeW w1 d1 e
  subst h2
  refine ⟨q,rfl,?_⟩
  cases a with
  | tup es =>
   right
   simp only [Den] at d1
   obtain ⟨q',xs',e1,e2,e3⟩:=id d1
   cases e1
   exact ⟨⟨_,SqT.of (w1.sub _ _ e2)⟩,h1 _ H1 G1 ι1 (Ext.refl _ _) w1 (zmk (by simpa only [Den] using d1))⟩
  | _ =>
   left
   obtain ⟨q',xs',e1,e2,e3⟩:=zbR w1 d1 (zgv e (by intro _ z;cases z))
   cases e1
   exact ⟨⟨_,e2⟩,h1 _ H1 G1 ι1 (Ext.refl _ _) w1 (zlO d1 (by intro _ z;cases z))⟩
@[simp] def zc1 (lo:Int) (n:Nat):Src:=⟨(List.range n).map fun (i:Nat)=>A.int (lo + (i:Int)),fun _=>True⟩
def zcW (i:Int):Prop:=-(2 ^ 62) ≤ i∧i < 2 ^ 62
instance (i:Int):Decidable (zcW i):=by unfold zcW;infer_instance
theorem zl7 {K:PySem.W.Frag} {G:Hp} {ι:List Addr} {lo:Int} {n:Nat}:ItV K G ι (Itr lo n) (zc1 lo n):=by
 refine ⟨fun _ _ _ _ _ _ _ i hi=>show i < n by simpa [zc1] using hi,fun _ _ _ _ _ _ _ i hi=>show n ≤ i by simpa [zc1] using hi,fun G' ι' Ω' H' e w h i x H2 y hy hd=>?_⟩
 obtain ⟨e1,e2⟩:=hd
 subst e1 e2
 refine ⟨G',Ext.refl _ _,w,?_⟩
 simp only [zc1,List.getElem?_map] at hy
 cases e:(List.range n)[i]? with
 | none=>rw [e] at hy;cases hy
 | some j =>
  rw [e] at hy
  cases hy
  have:=(List.getElem?_eq_some_iff.mp e).2
  simp at this
  subst this
  simp only [Den]
@[simp] def zgJ (f:Ev→Mo (List A)):Ev→Mo Src:=fun ρ=>mb (f ρ) fun as=>match as with
 | [.int j]=>mb (chk (zcW j)) fun _=>ret (zc1 0 j.toNat)
 | _=>stuck
theorem zeS {tg a:Expr} {fs:Ev→Mo (List A)} {p:Pos} (hg:Gl X "range") (hm:X.mg "range" = none) (ha:VA X W [a] fs) (hs:starEach [a] X.env=[(false,eval a X.env)]:=by rfl):VI X W tg (.Call (.Name "range" p) [a] [] pos) (zgJ fs):=by
 obtain ⟨t,p,s⟩:=ha
 refine ⟨_,zil hg hm p hs,fun G ι Ω H σ ρ R w r h=>?_⟩
 refine s G ι Ω H σ ρ _ w r (Post.mb h fun as Ω1 vs H1 G1 ι1 x1 w1 d1 h1=>?_)
 split at h1
 ·rename_i j
  obtain ⟨v,t,rfl,q1,q2⟩:=d1.zch
  rw [zbP] at q2;subst q2
  simp only [Den] at q1;subst q1
  obtain ⟨hc,h2⟩:=Post.chk h1
  exact ⟨j,rfl,hc.1,hc.2,zbw w1 zl7 h2⟩
 ·exact False.elim h1
end
end V2
namespace V2
open PySem PySem.Spec PyProof.Rows L2
section
variable {X:Cx} {W:WX} {e a b:Expr} {es:List Expr} {pos:Pos} {fa fb:Ev→Mo A} {fs:Ev→Mo (List A)}
@[simp] def gIx (a i:A):Mo A:=fun Ω=>match za7 Ω a,i with
 | some ds, .int n=>match atI ds n with
  | some d=>some (.ok d,Ω)
  | none=>none
 | _,_=>none
theorem zl9 {K:PySem.W.Frag} {G:Hp} {ι:List Addr} {xs:List V} {ds:List A} {n:Int} {d:A} (h:DenL K G ι xs ds) (e:atI ds n=some d):∃ x,atI xs n=some x∧Den K G ι x d:=by
 unfold atI at e ⊢
 rw [h.length]
 cases q:ixN ds.length n with
 | none=>rw [q] at e;cases e
 | some j=>rw [q] at e;exact h.get e
theorem zb0 (ha:VE X W a fa) (hb:VE X W b fb) (hs:zim b):VE X W (.Subscript a b pos) (vOp gIx fa fb):=by
 obtain ⟨t,p1,s1⟩:=ha
 obtain ⟨u,p2,s2⟩:=hb
 refine ⟨_,zoM znG p1 p2 hs,zhA ?_ s1 s2⟩
 intro G ι Ω H σ x y a i Q w d1 d2 h
 unfold gIx at h
 split at h
 ·rename_i ds n e1
  split at h
  ·rename_i d e
   simp only [Den] at d2
   have fin:∀ v,Den X.K G ι v d→Q v H:=fun v hv=>h v H G ι (Ext.refl _ _) w hv
   obtain ⟨p,xs,rfl,hq,hd⟩:=zeW w d1 e1
   obtain ⟨v,q1,q2⟩:=zl9 hd e
   rcases hq with hq | hq
   ·exact .inl ⟨p,xs,n,v,rfl,d2,hq,q1,fin v q2⟩
   ·exact .inr (.inl ⟨p,xs,n,v,rfl,d2,hq,q1,fin v q2⟩)
  ·exact False.elim h
 ·exact False.elim h
def VO (X:Cx) (W:WX) (e:Option Expr) (f:Ev→Mo (Option Int)):Prop:=∃ t,PO X e t∧Sim X.K (fun _ _ o o'=>o=o') W t f
theorem zfK:VO X W none (fun _=>ret none):=⟨_,zlV,fun _ _ _ _ _ _ _ w _ q=>zbw w rfl q⟩
@[simp] def zga (f:Ev→Mo A):Ev→Mo (Option Int):=fun ρ=>mb (f ρ) fun x=>match x with
 | .int i=>ret (some i)
 | _=>stuck
theorem zfX (h:VE X W e fa):VO X W (some e) (zga fa):=by
 obtain ⟨t,p,s⟩:=h
 refine ⟨_,zlz p,fun G ι Ω H σ ρ Q w r h=>?_⟩
 refine s G ι Ω H σ ρ _ w r (Post.mb h fun x Ω1 v H1 G1 ι1 x1 w1 d1 h1=>?_)
 cases x with
 | int i=>simp only [Den] at d1;exact ⟨i,d1,zbw w1 rfl h1⟩
 | _=>exact False.elim h1
def cutA (ds:List A) (lo hi:Option Int):List A:=(ds.drop (HT.sIx ds.length 0 lo)).take (HT.sIx ds.length ds.length hi - HT.sIx ds.length 0 lo)
theorem zja {K:PySem.W.Frag} {G:Hp} {ι:List Addr} {xs:List V} {ds:List A} (h:DenL K G ι xs ds) (lo hi:Option Int):DenL K G ι (cutV xs lo hi) (cutA ds lo hi):=by
 unfold cutV cutA
 rw [h.length]
 exact (h.drop _).take _
@[simp] def gSl (c:Bool) (a:A) (lo hi:Option Int):Mo A:=fun Ω=>match a with
 | .tup ds=>if HT.sIx ds.length 0 lo=0∧HT.sIx ds.length ds.length hi=ds.length then none else some (.ok (.tup (cutA ds lo hi)),Ω)
 | a=>match zar Ω a with
  | some ds=>mkL c (cutA ds lo hi) Ω
  | none=>none
@[simp] def vSl (c:Bool) (f:Ev→Mo A) (l h:Ev→Mo (Option Int)):Ev→Mo A:=fun ρ=>mb (f ρ) fun a=>mb (l ρ) fun lo=>mb (h ρ) fun hi=>gSl c a lo hi
theorem zej (c:Bool) {lo hi:Option Expr} {fl fh:Ev→Mo (Option Int)} {p2:Pos} (he:VE X W e fa) (hl:VO X W lo fl) (hh:VO X W hi fh):VE X W (.Subscript e (.Slice lo hi none p2) pos) (vSl c fa fl fh):=by
 obtain ⟨t,p1,s1⟩:=he
 obtain ⟨u,p2,s2⟩:=hl
 obtain ⟨u',p3,s3⟩:=hh
 refine ⟨_,zkA (zlY.or zmE) p1 p2 p3,fun G ι Ω H σ ρ Q w r h=>?_⟩
 refine s1 G ι Ω H σ ρ _ w r (Post.mb h fun x Ω1 v H1 G1 ι1 x1 w1 d1 h1=>?_)
 refine s2 G1 ι1 Ω1 H1 σ ρ _ w1 (r.ext x1) (Post.mb h1 fun o Ω2 o' H2 G2 ι2 x2 w2 d2 h2=>?_)
 cases (show o'=o from d2)
 refine s3 G2 ι2 Ω2 H2 σ ρ _ w2 ((r.ext x1).ext x2) (Post.mb h2 fun k Ω3 k' H3 G3 ι3 x3 w3 d3 h3=>?_)
 cases (show k'=k from d3)
 have d:=d1.ext (x2.trans x3)
 unfold gSl at h3
 cases x with
 | tup ds =>
  simp only at h3
  split at h3
  ·exact False.elim h3
  ·rename_i hn
   simp only [Den] at d
   obtain ⟨p,xs,rfl,q2,q3⟩:=d
   exact .inr ⟨p,xs,rfl,SqT.of (w3.sub _ _ q2),by rw [q3.length];exact hn,fun l hl=>zi3 w3 hl (zja q3 o k) h3⟩
 | _ =>
  simp only at h3
  split at h3
  ·rename_i ds e
   obtain ⟨p,xs,rfl,q2,q3⟩:=zbR w3 d e
   exact .inl ⟨p,xs,rfl,q2,fun l hl=>zjf w3 hl (zja q3 o k) h3⟩
  ·exact False.elim h3
def zn2 (K:PySem.W.Frag) (W:WX) (r:List V→Hp→VK→Prop) (g:List A→Mo A):Prop :=
 ∀ G ι Ω H σ xs as Q,Wd K G ι Ω H→DenL K G ι xs as→Post K (Den K) W G ι σ Q (g as Ω)→r xs H Q
def zez (X:Cx) (W:WX) (f:Value) (g:List A→Mo A):Prop:=∃ r,zeh X f r∧zn2 X.K W r g
@[simp] def vCl (g:List A→Mo A) (f:Ev→Mo (List A)):Ev→Mo A:=fun ρ=>mb (f ρ) g
theorem znb {K:PySem.W.Frag} {r:List V→Hp→VK→Prop} {g:List A→Mo A} {t:TA} (hg:zn2 K W r g) (h:Sim K (DenL K) W t fs):Sim K (Den K) W (tCB r t) (vCl g fs):=by
 intro G ι Ω H σ ρ Q w q h2
 exact h G ι Ω H σ ρ _ w q (Post.mb h2 fun as Ω1 vs H1 G1 ι1 x1 w1 d1 h1=>hg G1 ι1 Ω1 H1 σ vs as Q w1 d1 h1)
theorem zan {id:String} {x:Str} {g:List A→Mo A} {p:Pos} (hc:zez X W (.builtin id) g) (hg:Gl X x) (hm:X.mg x=none) (hv:bootBuiltins x=some (.builtin id)) (ha:VA X W (e :: es) fs) (hn:x ≠ "__name__":=by decide) (hdb:(x == ("__debug__" : Str))=false:=by decide)
  (he:starEach (e :: es) X.env=(false,eval e X.env) :: starEach es X.env:=by rfl) (hpl:(backTo pos (starEach es X.env)).any (·.1)=false:=by rfl):VE X W (.Call (.Name x p) (e :: es) [] pos) (vCl g fs):=by
 obtain ⟨r,c1,c2⟩:=hc
 obtain ⟨t,p1,s1⟩:=ha
 exact ⟨_,zj7 c1 hg hm hv p1 hn hdb he hpl,znb c2 s1⟩
theorem den1 {K:PySem.W.Frag} {G:Hp} {ι:List Addr} {xs:List V} {d:A} (h:DenL K G ι xs [d]):∃ x,xs=[x]∧Den K G ι x d:=by
 obtain ⟨x,r,rfl,h1,h2⟩:=h.zch
 rw [zbP] at h2;subst h2
 exact ⟨x,rfl,h1⟩
theorem den2 {K:PySem.W.Frag} {G:Hp} {ι:List Addr} {xs:List V} {d d':A} (h:DenL K G ι xs [d,d']):∃ x y,xs=[x,y]∧Den K G ι x d∧Den K G ι y d':=by
 obtain ⟨x,r,rfl,h1,h2⟩:=h.zch
 obtain ⟨y,rfl,h3⟩:=den1 h2
 exact ⟨x,y,rfl,h1,h3⟩
@[simp] def gLen (as:List A):Mo A:=fun Ω=>match as with
 | [a]=>(match za7 Ω a with
  | some ds=>some (.ok (.int ds.length),Ω)
  | none=>none)
 | _=>none
theorem zd5:zez X W (.builtin "len") gLen:=by
 refine ⟨_,zgl,?_⟩
 intro G ι Ω H σ xs as Q w d h
 unfold gLen at h
 split at h
 ·rename_i a
  split at h
  ·rename_i ds e
   obtain ⟨x,rfl,d1⟩:=den1 d
   obtain ⟨p,ys,rfl,h2,h3⟩:=zeW w d1 e
   exact ⟨p,ys,rfl,h2,h _ H G ι (Ext.refl _ _) w (by simp only [Den,h3.length])⟩
  ·exact False.elim h
 ·exact False.elim h
@[simp] def zgi (as:List A):Mo A:=match as with
 | [.int i, .int j]=>ret (.int (max i j))
 | _=>stuck
@[simp] def zje (as:List A):Mo A:=match as with
 | [.int i, .int j]=>ret (.int (min i j))
 | _=>stuck
theorem zgE (hc:X.calm=true):zez X W (.builtin "max") zgi:=by
 refine ⟨_,ziV hc,?_⟩
 intro G ι Ω H σ xs as Q w d h
 unfold zgi at h
 split at h
 ·rename_i i j
  obtain ⟨x,y,rfl,d1,d2⟩:=den2 d
  simp only [Den] at d1 d2;subst d1 d2
  refine ⟨i,j,rfl,?_⟩
  have e:(if j > i then j else i)=max i j:=by split <;> omega
  rw [e]
  exact zbw w (by simp only [Den]) h
 ·exact False.elim h
theorem ziQ (hc:X.calm=true):zez X W (.builtin "min") zje:=by
 refine ⟨_,zik hc,?_⟩
 intro G ι Ω H σ xs as Q w d h
 unfold zje at h
 split at h
 ·rename_i i j
  obtain ⟨x,y,rfl,d1,d2⟩:=den2 d
  simp only [Den] at d1 d2;subst d1 d2
  refine ⟨i,j,rfl,?_⟩
  have e:(if j < i then j else i)=min i j:=by split <;> omega
  rw [e]
  exact zbw w (by simp only [Den]) h
 ·exact False.elim h
def intsOf:List A→Option (List Int)
 | []=>some []
 | .int i :: r=>(intsOf r).map (i :: ·)
 | _=>none
theorem zgc {K:PySem.W.Frag} {G:Hp} {ι:List Addr}:∀ {ds:List A} {xs:List V} {ns:List Int},intsOf ds=some ns→DenL K G ι xs ds→xs=ns.map V.int
 | [],xs,ns,h,d=>by
  simp only [intsOf,Option.some.injEq] at h;subst h
  rw [zbP] at d;subst d;rfl
 | a :: ds,xs,ns,h,d=>by
  obtain ⟨x,t,rfl,d1,d2⟩:=d.zch
  cases a with
  | int i =>
   simp only [intsOf,Option.map_eq_some_iff] at h
   obtain ⟨ms,h1,rfl⟩:=h
   simp only [Den] at d1;subst d1
   rw [zgc h1 d2];rfl
  | _=>simp [intsOf] at h
theorem zfd (ns:List Int):intsOf (ns.map A.int)=some ns:=by
 induction ns with
 | nil=>rfl
 | cons n ns ih=>simp [intsOf,ih]
@[simp] def gSum (as:List A):Mo A:=fun Ω=>match as with
 | [a]=>(match (zar Ω a).bind intsOf with
  | some ns=>some (.ok (.int ns.sum),Ω)
  | none=>none)
 | _=>none
theorem zlA (hc:X.calm=true):zez X W (.builtin "sum") gSum:=by
 refine ⟨_,zky hc,?_⟩
 intro G ι Ω H σ xs as Q w d h
 unfold gSum at h
 split at h
 ·rename_i a
  split at h
  ·rename_i ns e
   obtain ⟨x,rfl,d1⟩:=den1 d
   rw [Option.bind_eq_some_iff] at e
   obtain ⟨ds,e1,e2⟩:=e
   obtain ⟨p,ys,rfl,h2,h3⟩:=zbR w d1 e1
   rw [zgc e2 h3] at h2
   exact ⟨p,ns,rfl,h2,h _ H G ι (Ext.refl _ _) w (by simp only [Den])⟩
  ·exact False.elim h
 ·exact False.elim h
def tyA (Ω:Sto):A→Option String
 | .int _=>some "int"
 | .bl _=>some "bool"
 | .str _=>some "str"
 | .non=>some "NoneType"
 | .tup _=>some "tuple"
 | .lst _=>some "list"
 | .cel k=>match Ω[k]? with
  | some (.lst _)=>some "list"
  | some (.dct _)=>some "dict"
  | _=>none
 | _=>none
theorem zm0 {K:PySem.W.Frag} {G H:Hp} {ι:List Addr} {Ω:Sto} {v:V} {a:A} {t:String} (w:Wd K G ι Ω H) (d:Den K G ι v a) (h:tyA Ω a=some t):TyOf K H v (.type t):=by
 cases a with
 | int i=>simp only [tyA,Option.some.injEq] at h;subst h;simp only [Den] at d;subst d;exact .int i
 | bl i=>simp only [tyA,Option.some.injEq] at h;subst h;simp only [Den] at d;subst d;exact .bl i
 | str i=>simp only [tyA,Option.some.injEq] at h;subst h;simp only [Den] at d;subst d;exact .str i
 | non=>simp only [tyA,Option.some.injEq] at h;subst h;simp only [Den] at d;subst d;exact .non
 | tup ds=>simp only [tyA,Option.some.injEq] at h;subst h;simp only [Den] at d;obtain ⟨p,xs,rfl,h2,_⟩:=d;exact .tup (w.sub _ _ h2)
 | lst ds=>simp only [tyA,Option.some.injEq] at h;subst h;simp only [Den] at d;obtain ⟨p,xs,rfl,h2,_⟩:=d;exact .lst (w.sub _ _ h2)
 | cel k =>
  simp only [Den] at d
  obtain ⟨p,rfl,hk⟩:=d
  simp only [tyA] at h
  split at h
  ·rename_i ds e
   cases h
   obtain ⟨g,xs,h3,_⟩:=w.cel k _ p e hk
   exact .lst h3
  ·rename_i ds e
   cases h
   obtain ⟨g,xs,h3,_⟩:=w.cel k _ p e hk
   exact .dK h3
  ·cases h
 | _=>simp [tyA] at h
theorem zdy (K:PySem.W.Frag):PySem.W.kitOne K (.type "int") (.type "int")=some true:=by unfold PySem.W.kitOne;rw [if_pos (beq_self_eq_true _)]
theorem zdq (K:PySem.W.Frag):PySem.W.kitOne K (.type "bool") (.type "int")=some true:=by kernel_rfl
theorem zdS (K:PySem.W.Frag):PySem.W.kitOne K (.type "str") (.type "int")=some false:=by kernel_rfl
theorem zb9 (K:PySem.W.Frag):PySem.W.kitOne K (.type "NoneType") (.type "int")=some false:=by kernel_rfl
theorem zcS (K:PySem.W.Frag):PySem.W.kitOne K (.type "tuple") (.type "int")=some false:=by kernel_rfl
theorem zdh (K:PySem.W.Frag):PySem.W.kitOne K (.type "list") (.type "int")=some false:=by kernel_rfl
theorem zdr (K:PySem.W.Frag):PySem.W.kitOne K (.type "int") (.type "bool")=some false:=by kernel_rfl
theorem zcT (K:PySem.W.Frag):PySem.W.kitOne K (.type "bool") (.type "bool")=some true:=by unfold PySem.W.kitOne;rw [if_pos (beq_self_eq_true _)]
theorem zdl (K:PySem.W.Frag):PySem.W.kitOne K (.type "str") (.type "bool")=some false:=by kernel_rfl
theorem zbW (K:PySem.W.Frag):PySem.W.kitOne K (.type "NoneType") (.type "bool")=some false:=by kernel_rfl
theorem zcv (K:PySem.W.Frag):PySem.W.kitOne K (.type "tuple") (.type "bool")=some false:=by kernel_rfl
theorem zc4 (K:PySem.W.Frag):PySem.W.kitOne K (.type "list") (.type "bool")=some false:=by kernel_rfl
theorem zcI (K:PySem.W.Frag):PySem.W.kitOne K (.type "int") (.type "tuple")=some false:=by kernel_rfl
theorem zcB (K:PySem.W.Frag):PySem.W.kitOne K (.type "bool") (.type "tuple")=some false:=by kernel_rfl
theorem zcU (K:PySem.W.Frag):PySem.W.kitOne K (.type "str") (.type "tuple")=some false:=by kernel_rfl
theorem zbM (K:PySem.W.Frag):PySem.W.kitOne K (.type "NoneType") (.type "tuple")=some false:=by kernel_rfl
theorem zcn (K:PySem.W.Frag):PySem.W.kitOne K (.type "tuple") (.type "tuple")=some true:=by unfold PySem.W.kitOne;rw [if_pos (beq_self_eq_true _)]
theorem zcA (K:PySem.W.Frag):PySem.W.kitOne K (.type "list") (.type "tuple")=some false:=by kernel_rfl
theorem zdi (K:PySem.W.Frag):PySem.W.kitOne K (.type "int") (.type "list")=some false:=by kernel_rfl
theorem zcG (K:PySem.W.Frag):PySem.W.kitOne K (.type "bool") (.type "list")=some false:=by kernel_rfl
theorem zdm (K:PySem.W.Frag):PySem.W.kitOne K (.type "str") (.type "list")=some false:=by kernel_rfl
theorem zbX (K:PySem.W.Frag):PySem.W.kitOne K (.type "NoneType") (.type "list")=some false:=by kernel_rfl
theorem zcx (K:PySem.W.Frag):PySem.W.kitOne K (.type "tuple") (.type "list")=some false:=by kernel_rfl
theorem zcY (K:PySem.W.Frag):PySem.W.kitOne K (.type "list") (.type "list")=some true:=by unfold PySem.W.kitOne;rw [if_pos (beq_self_eq_true _)]
theorem zdF (K:PySem.W.Frag):PySem.W.kitOne K (.type "int") (.type "str")=some false:=by kernel_rfl
theorem zdj (K:PySem.W.Frag):PySem.W.kitOne K (.type "bool") (.type "str")=some false:=by kernel_rfl
theorem zd0 (K:PySem.W.Frag):PySem.W.kitOne K (.type "str") (.type "str")=some true:=by unfold PySem.W.kitOne;rw [if_pos (beq_self_eq_true _)]
theorem zcd (K:PySem.W.Frag):PySem.W.kitOne K (.type "NoneType") (.type "str")=some false:=by kernel_rfl
theorem zc6 (K:PySem.W.Frag):PySem.W.kitOne K (.type "tuple") (.type "str")=some false:=by kernel_rfl
theorem zdn (K:PySem.W.Frag):PySem.W.kitOne K (.type "list") (.type "str")=some false:=by kernel_rfl
inductive TyP:String→String→Bool→Prop where
 | zdy:TyP "int" "int" true
 | zdq:TyP "bool" "int" true
 | zdS:TyP "str" "int" false
 | zb9:TyP "NoneType" "int" false
 | zcS:TyP "tuple" "int" false
 | zdh:TyP "list" "int" false
 | zdr:TyP "int" "bool" false
 | zcT:TyP "bool" "bool" true
 | zdl:TyP "str" "bool" false
 | zbW:TyP "NoneType" "bool" false
 | zcv:TyP "tuple" "bool" false
 | zc4:TyP "list" "bool" false
 | zcI:TyP "int" "tuple" false
 | zcB:TyP "bool" "tuple" false
 | zcU:TyP "str" "tuple" false
 | zbM:TyP "NoneType" "tuple" false
 | zcn:TyP "tuple" "tuple" true
 | zcA:TyP "list" "tuple" false
 | zdi:TyP "int" "list" false
 | zcG:TyP "bool" "list" false
 | zdm:TyP "str" "list" false
 | zbX:TyP "NoneType" "list" false
 | zcx:TyP "tuple" "list" false
 | zcY:TyP "list" "list" true
 | zdF:TyP "int" "str" false
 | zdj:TyP "bool" "str" false
 | zd0:TyP "str" "str" true
 | zcd:TyP "NoneType" "str" false
 | zc6:TyP "tuple" "str" false
 | zdn:TyP "list" "str" false
theorem TyP.ok (K:PySem.W.Frag) {t n:String} {b:Bool} (h:TyP t n b):PySem.W.kitOne K (.type t) (.type n)=some b:=by
 cases h
 ·exact V2.zdy K
 ·exact V2.zdq K
 ·exact V2.zdS K
 ·exact V2.zb9 K
 ·exact V2.zcS K
 ·exact V2.zdh K
 ·exact V2.zdr K
 ·exact V2.zcT K
 ·exact V2.zdl K
 ·exact V2.zbW K
 ·exact V2.zcv K
 ·exact V2.zc4 K
 ·exact V2.zcI K
 ·exact V2.zcB K
 ·exact V2.zcU K
 ·exact V2.zbM K
 ·exact V2.zcn K
 ·exact V2.zcA K
 ·exact V2.zdi K
 ·exact V2.zcG K
 ·exact V2.zdm K
 ·exact V2.zbX K
 ·exact V2.zcx K
 ·exact V2.zcY K
 ·exact V2.zdF K
 ·exact V2.zdj K
 ·exact V2.zd0 K
 ·exact V2.zcd K
 ·exact V2.zc6 K
 ·exact V2.zdn K
def isTy (t n:String):Option Bool:=if t = "int"∧n = "int" then some true else if t = "bool"∧n = "int" then some true else if t = "str"∧n = "int" then some false else if t = "NoneType"∧n = "int" then some false else if t = "tuple"∧n = "int" then some false else if t = "list"∧n = "int" then some false else if t = "int"∧n = "bool" then some false else if t = "bool"∧n = "bool" then some true else if t = "str"∧n = "bool" then some false else if t = "NoneType"∧n = "bool" then some false else if t = "tuple"∧n = "bool" then some false else if t = "list"∧n = "bool" then some false else if t = "int"∧n = "tuple" then some false else if t = "bool"∧n = "tuple" then some false else if t = "str"∧n = "tuple" then some false else if t = "NoneType"∧n = "tuple" then some false else if t = "tuple"∧n = "tuple" then some true else if t = "list"∧n = "tuple" then some false else if t = "int"∧n = "list" then some false else if t = "bool"∧n = "list" then some false else if t = "str"∧n = "list" then some false else if t = "NoneType"∧n = "list" then some false else if t = "tuple"∧n = "list" then some false else if t = "list"∧n = "list" then some true else if t = "int"∧n = "str" then some false else if t = "bool"∧n = "str" then some false else if t = "str"∧n = "str" then some true else if t = "NoneType"∧n = "str" then some false else if t = "tuple"∧n = "str" then some false else if t = "list"∧n = "str" then some false else none
theorem zng {t n:String} {b:Bool} (h:isTy t n=some b):TyP t n b:=by
 unfold isTy at h
 by_cases h0:t = "int"∧n = "int"
 ·rw [if_pos h0] at h;cases h;obtain ⟨rfl,rfl⟩:=h0;exact .zdy
 rw [if_neg h0] at h
 by_cases h1:t = "bool"∧n = "int"
 ·rw [if_pos h1] at h;cases h;obtain ⟨rfl,rfl⟩:=h1;exact .zdq
 rw [if_neg h1] at h
 by_cases h2:t = "str"∧n = "int"
 ·rw [if_pos h2] at h;cases h;obtain ⟨rfl,rfl⟩:=h2;exact .zdS
 rw [if_neg h2] at h
 by_cases h3:t = "NoneType"∧n = "int"
 ·rw [if_pos h3] at h;cases h;obtain ⟨rfl,rfl⟩:=h3;exact .zb9
 rw [if_neg h3] at h
 by_cases h4:t = "tuple"∧n = "int"
 ·rw [if_pos h4] at h;cases h;obtain ⟨rfl,rfl⟩:=h4;exact .zcS
 rw [if_neg h4] at h
 by_cases h5:t = "list"∧n = "int"
 ·rw [if_pos h5] at h;cases h;obtain ⟨rfl,rfl⟩:=h5;exact .zdh
 rw [if_neg h5] at h
 by_cases h6:t = "int"∧n = "bool"
 ·rw [if_pos h6] at h;cases h;obtain ⟨rfl,rfl⟩:=h6;exact .zdr
 rw [if_neg h6] at h
 by_cases h7:t = "bool"∧n = "bool"
 ·rw [if_pos h7] at h;cases h;obtain ⟨rfl,rfl⟩:=h7;exact .zcT
 rw [if_neg h7] at h
 by_cases h8:t = "str"∧n = "bool"
 ·rw [if_pos h8] at h;cases h;obtain ⟨rfl,rfl⟩:=h8;exact .zdl
 rw [if_neg h8] at h
 by_cases h9:t = "NoneType"∧n = "bool"
 ·rw [if_pos h9] at h;cases h;obtain ⟨rfl,rfl⟩:=h9;exact .zbW
 rw [if_neg h9] at h
 by_cases h10:t = "tuple"∧n = "bool"
 ·rw [if_pos h10] at h;cases h;obtain ⟨rfl,rfl⟩:=h10;exact .zcv
 rw [if_neg h10] at h
 by_cases h11:t = "list"∧n = "bool"
 ·rw [if_pos h11] at h;cases h;obtain ⟨rfl,rfl⟩:=h11;exact .zc4
 rw [if_neg h11] at h
 by_cases h12:t = "int"∧n = "tuple"
 ·rw [if_pos h12] at h;cases h;obtain ⟨rfl,rfl⟩:=h12;exact .zcI
 rw [if_neg h12] at h
 by_cases h13:t = "bool"∧n = "tuple"
 ·rw [if_pos h13] at h;cases h;obtain ⟨rfl,rfl⟩:=h13;exact .zcB
 rw [if_neg h13] at h
 by_cases h14:t = "str"∧n = "tuple"
 ·rw [if_pos h14] at h;cases h;obtain ⟨rfl,rfl⟩:=h14;exact .zcU
 rw [if_neg h14] at h
 by_cases h15:t = "NoneType"∧n = "tuple"
 ·rw [if_pos h15] at h;cases h;obtain ⟨rfl,rfl⟩:=h15;exact .zbM
 rw [if_neg h15] at h
 by_cases h16:t = "tuple"∧n = "tuple"
 ·rw [if_pos h16] at h;cases h;obtain ⟨rfl,rfl⟩:=h16;exact .zcn
 rw [if_neg h16] at h
 by_cases h17:t = "list"∧n = "tuple"
 ·rw [if_pos h17] at h;cases h;obtain ⟨rfl,rfl⟩:=h17;exact .zcA
 rw [if_neg h17] at h
 by_cases h18:t = "int"∧n = "list"
 ·rw [if_pos h18] at h;cases h;obtain ⟨rfl,rfl⟩:=h18;exact .zdi
 rw [if_neg h18] at h
 by_cases h19:t = "bool"∧n = "list"
 ·rw [if_pos h19] at h;cases h;obtain ⟨rfl,rfl⟩:=h19;exact .zcG
 rw [if_neg h19] at h
 by_cases h20:t = "str"∧n = "list"
 ·rw [if_pos h20] at h;cases h;obtain ⟨rfl,rfl⟩:=h20;exact .zdm
 rw [if_neg h20] at h
 by_cases h21:t = "NoneType"∧n = "list"
 ·rw [if_pos h21] at h;cases h;obtain ⟨rfl,rfl⟩:=h21;exact .zbX
 rw [if_neg h21] at h
 by_cases h22:t = "tuple"∧n = "list"
 ·rw [if_pos h22] at h;cases h;obtain ⟨rfl,rfl⟩:=h22;exact .zcx
 rw [if_neg h22] at h
 by_cases h23:t = "list"∧n = "list"
 ·rw [if_pos h23] at h;cases h;obtain ⟨rfl,rfl⟩:=h23;exact .zcY
 rw [if_neg h23] at h
 by_cases h24:t = "int"∧n = "str"
 ·rw [if_pos h24] at h;cases h;obtain ⟨rfl,rfl⟩:=h24;exact .zdF
 rw [if_neg h24] at h
 by_cases h25:t = "bool"∧n = "str"
 ·rw [if_pos h25] at h;cases h;obtain ⟨rfl,rfl⟩:=h25;exact .zdj
 rw [if_neg h25] at h
 by_cases h26:t = "str"∧n = "str"
 ·rw [if_pos h26] at h;cases h;obtain ⟨rfl,rfl⟩:=h26;exact .zd0
 rw [if_neg h26] at h
 by_cases h27:t = "NoneType"∧n = "str"
 ·rw [if_pos h27] at h;cases h;obtain ⟨rfl,rfl⟩:=h27;exact .zcd
 rw [if_neg h27] at h
 by_cases h28:t = "tuple"∧n = "str"
 ·rw [if_pos h28] at h;cases h;obtain ⟨rfl,rfl⟩:=h28;exact .zc6
 rw [if_neg h28] at h
 by_cases h29:t = "list"∧n = "str"
 ·rw [if_pos h29] at h;cases h;obtain ⟨rfl,rfl⟩:=h29;exact .zdn
 rw [if_neg h29] at h
 cases h
theorem zlL (K:PySem.W.Frag) {t n:String} {b:Bool} (h:isTy t n=some b):PySem.W.kitOne K (.type t) (.type n)=some b:=(zng h).ok K
@[simp] def gIs1 (as:List A):Mo A:=fun Ω=>match as with
 | [a, .ty n]=>(match (tyA Ω a).bind fun t=>isTy t n with
  | some b=>some (.ok (.bl b),Ω)
  | none=>none)
 | _=>none
theorem zf4:zez X W (.builtin "isinstance") gIs1:=by
 refine ⟨_,zgM,?_⟩
 intro G ι Ω H σ xs as Q w d h
 unfold gIs1 at h
 split at h
 ·rename_i a n
  split at h
  ·rename_i b e
   rw [Option.bind_eq_some_iff] at e
   obtain ⟨t,e1,e2⟩:=e
   obtain ⟨x,y,rfl,d1,d2⟩:=den2 d
   simp only [Den] at d2;subst d2
   exact ⟨x,n,_,b,rfl,zm0 w d1 e1,zlL _ e2,h _ H G ι (Ext.refl _ _) w (by simp only [Den])⟩
  ·exact False.elim h
 ·exact False.elim h
def MtV (K:PySem.W.Frag) (W:WX) (r:V→List V→Hp→VK→Prop) (g:A→List A→Mo A):Prop :=
 ∀ G ι Ω H σ x xs a as Q,Wd K G ι Ω H→Den K G ι x a→DenL K G ι xs as→Post K (Den K) W G ι σ Q (g a as Ω)→r x xs H Q
def isL (Ω:Sto) (a:A):Prop:=∃ ds,zar Ω a=some ds
open Classical in
@[simp] noncomputable def vBM (g:A→List A→Mo A) (fo:Ev→Mo A) (f:Ev→Mo (List A)):Ev→Mo A:=fun ρ=>mb (fo ρ) fun o Ω=>if isL Ω o then mb (f ρ) (fun as=>g o as) Ω else none
theorem zjV {K:PySem.W.Frag} {G H:Hp} {ι:List Addr} {Ω:Sto} {v:V} {a:A} (w:Wd K G ι Ω H) (d:Den K G ι v a) (h:isL Ω a):tyV K "list" v H:=by
 obtain ⟨ds,e⟩:=h
 obtain ⟨p,xs,rfl,q,_⟩:=zbR w d e
 exact .inl ⟨rfl,xs,q⟩
theorem zlr {name:Str} {apos:Pos} {id:String} {r:V→List V→Hp→VK→Prop} {g:A→List A→Mo A} (pa:PlainAttrs "list") (slot:Slot "list" name id) (hty:typeOf (.builtin id)=pure (.type "method_descriptor")) (hm:MtR X id r) (hv:MtV X.K W r g) (ho:VE X W a fa) (ha:VA X W (e :: es) fs)
  (hbase:attributeBase a name X.env (eval a X.env)=eval a X.env:=by rfl)
  (hfew:((backTo pos (starEach (e :: es) X.env)).all (fun x=>!x.1) && (backToKw pos (keywordEach [] X.env)).all (fun x=>x.1.isSome)
   && decide ((e :: es).length + ([] : List Keyword).length + (if ([] : List Keyword).isEmpty then 0 else 1) < 30))=true:=by rfl)
  (hline:(apos.endLine == pos.line)=true:=by rfl) (hs:starEach (e :: es) X.env=(false,eval e X.env) :: starEach es X.env:=by rfl) (hplain:(backTo pos (starEach es X.env)).any (·.1)=false:=by rfl) :
  VE X W (.Call (.Attribute a name apos) (e :: es) [] pos) (vBM g fa fs):=by
 obtain ⟨t,p1,s1⟩:=ho
 obtain ⟨u,p2,s2⟩:=ha
 refine ⟨_,zmZ pa slot hty hm p1 p2 hbase hfew hline hs hplain,fun G ι Ω H σ ρ Q w r h=>?_⟩
 refine s1 G ι Ω H σ ρ _ w r (Post.mb h fun x Ω1 v H1 G1 ι1 x1 w1 d1 h1=>?_)
 split at h1
 ·rename_i hl
  refine ⟨zjV w1 d1 hl,s2 G1 ι1 Ω1 H1 σ ρ _ w1 (r.ext x1) (Post.mb h1 fun as Ω2 vs H2 G2 ι2 x2 w2 d2 h2=>?_)⟩
  exact hv G2 ι2 Ω2 H2 σ v vs x as Q w2 (d1.ext x2) d2 h2
 ·exact False.elim h1
def zfb (Ω:Sto):A→Option (Nat × List A)
 | .cel k=>match Ω[k]? with
  | some (.lst ds)=>some (k,ds)
  | _=>none
 | _=>none
theorem zht {K:PySem.W.Frag} {G H:Hp} {ι:List Addr} {Ω:Sto} {v:V} {a:A} {k:Nat} {ds:List A} (w:Wd K G ι Ω H) (d:Den K G ι v a) (h:zfb Ω a=some (k,ds)):∃ p xs,v = .ref p∧ι[k]? = some p∧G p=none∧H p=some (.lst xs)∧DenL K G ι xs ds:=by
 cases a with
 | cel j =>
  simp only [zfb] at h
  split at h
  ·rename_i es e
   cases h
   simp only [Den] at d
   obtain ⟨p,rfl,hk⟩:=d
   obtain ⟨g,xs,h3,h4⟩:=w.cel k _ p e hk
   exact ⟨p,xs,rfl,hk,g,h3,h4⟩
  ·cases h
 | _=>simp [zfb] at h
@[simp] def zeM (o:A) (as:List A):Mo A:=fun Ω=>match zfb Ω o,as with
 | some (k,ds),[y]=>if ds.length < sizeLine then some (.ok .non,Ω.set k (.lst (ds ++ [y]))) else none
 | _,_=>none
theorem zhD:MtV X.K W ziw zeM:=by
 intro G ι Ω H σ x xs a as Q w d1 d2 h
 unfold zeM at h
 split at h
 ·rename_i k ds y e
  split at h
  ·rename_i hl
   obtain ⟨p,zs,rfl,hk,g,h3,h4⟩:=zht w d1 e
   obtain ⟨u,rfl,du⟩:=den1 d2
   refine ⟨p,zs,u,rfl,rfl,h3,by rw [h4.length];exact hl,?_⟩
   exact h _ _ G ι (Ext.refl _ _) (w.put (c := .lst (ds ++ [y])) hk g ⟨g,_,zaw,h4.append (.cons du .nil)⟩) (by simp only [Den])
  ·exact False.elim h
 ·exact False.elim h
end
end V2
namespace V2
open PySem PySem.Spec PyProof.Rows L2
mutual
def Cl (n:Nat):A→Prop
 | .cel k=>k < n
 | .tup ds=>ClL n ds
 | .lst ds=>ClL n ds
 | _=>True
def ClL (n:Nat):List A→Prop
 | []=>True
 | d :: ds=>Cl n d∧ClL n ds
end
section
variable {K:PySem.W.Frag} {G:Hp} {ι:List Addr}
mutual
theorem Den.cl:∀ {v:V} {d:A},Den K G ι v d→Cl ι.length d
 | _, .int _,_=>by simp only [Cl]
 | _, .bl _,_=>by simp only [Cl]
 | _, .str _,_=>by simp only [Cl]
 | _, .non,_=>by simp only [Cl]
 | _, .ty _,_=>by simp only [Cl]
 | _, .adr _,_=>by simp only [Cl]
 | _, .exn _ _ _ _,_=>by simp only [Cl]
 | _, .gl _,_=>by simp only [Cl]
 | _, .scr _,_=>by simp only [Cl]
 | _, .tup ds,h=>by
  simp only [Den] at h;simp only [Cl]
  obtain ⟨a,xs,_,_,h3⟩:=h
  exact DenL.cl h3
 | _, .lst ds,h=>by
  simp only [Den] at h;simp only [Cl]
  obtain ⟨a,xs,_,_,h3⟩:=h
  exact DenL.cl h3
 | _, .cel k,h=>by
  simp only [Den] at h;simp only [Cl]
  obtain ⟨a,_,h2⟩:=h
  exact (List.getElem?_eq_some_iff.mp h2).1
theorem DenL.cl:∀ {xs:List V} {ds:List A},DenL K G ι xs ds→ClL ι.length ds
 | _,[],_=>by simp only [ClL]
 | _,d :: ds,h=>by
  simp only [DenL] at h;simp only [ClL]
  obtain ⟨x,r,_,h2,h3⟩:=h
  exact ⟨Den.cl h2,DenL.cl h3⟩
end
mutual
theorem Den.cut {ι':List Addr} {n:Nat} (e:∀ k,k < n→ι[k]? = ι'[k]?):∀ {v:V} {d:A},Den K G ι' v d→Cl n d→Den K G ι v d
 | _, .int _,h,_=>by simpa only [Den] using h
 | _, .bl _,h,_=>by simpa only [Den] using h
 | _, .str _,h,_=>by simpa only [Den] using h
 | _, .non,h,_=>by simpa only [Den] using h
 | _, .ty _,h,_=>by simpa only [Den] using h
 | _, .adr _,h,_=>by simpa only [Den] using h
 | _, .exn _ _ _ _,h,_=>by simpa only [Den] using h
 | _, .gl _,h,_=>by simpa only [Den] using h
 | _, .scr _,h,_=>by simpa only [Den] using h
 | _, .tup ds,h,c=>by
  simp only [Den] at h ⊢;simp only [Cl] at c
  obtain ⟨a,xs,h1,h2,h3⟩:=h
  exact ⟨a,xs,h1,h2,DenL.cut e h3 c⟩
 | _, .lst ds,h,c=>by
  simp only [Den] at h ⊢;simp only [Cl] at c
  obtain ⟨a,xs,h1,h2,h3⟩:=h
  exact ⟨a,xs,h1,h2,DenL.cut e h3 c⟩
 | _, .cel k,h,c=>by
  simp only [Den] at h ⊢;simp only [Cl] at c
  obtain ⟨a,h1,h2⟩:=h
  exact ⟨a,h1,(e k c).trans h2⟩
theorem DenL.cut {ι':List Addr} {n:Nat} (e:∀ k,k < n→ι[k]? = ι'[k]?):∀ {xs:List V} {ds:List A},DenL K G ι' xs ds→ClL n ds→DenL K G ι xs ds
 | _,[],h,_=>by simpa only [DenL] using h
 | _,d :: ds,h,c=>by
  simp only [DenL] at h ⊢;simp only [ClL] at c
  obtain ⟨x,r,h1,h2,h3⟩:=h
  exact ⟨x,r,h1,Den.cut e h2 c.1,DenL.cut e h3 c.2⟩
end
def ClF (n:Nat):Fd→Prop
 | .val a=>Cl n a
 | .lst ds=>ClL n ds
 | .dct kvs=>ClL n (kvs.map (·.2))
def ClFs (n:Nat):List (Str × Fd)→Prop
 | []=>True
 | p :: r=>ClF n p.2∧ClFs n r
def ClC (n:Nat):Cell→Prop
 | .lst ds=>ClL n ds
 | .dct kvs=>ClL n (kvs.map (·.2))
 | .ins _ fs=>ClFs n fs
 | _=>True
theorem FdOk.cl {H:Hp} {v:V} {fd:Fd} (h:FdOk K G ι H v fd):ClF ι.length fd:=by
 cases fd with
 | val a=>exact Den.cl h
 | lst ds=>obtain ⟨_,_,_,_,_,_,q⟩:=h;exact q.cl
 | dct kvs=>obtain ⟨_,_,_,_,_,_,_,q⟩:=h;exact q.cl
theorem zbV.cl {H:Hp}:∀ {ws:List (Str × V)} {fs:List (Str × Fd)},zbV K G ι H ws fs→ClFs ι.length fs
 | [],[],_=>trivial
 | (_,_) :: _,(_,_) :: _,h=>⟨h.2.1.cl,h.2.2.cl⟩
 | [],_ :: _,h=>h.elim
 | _ :: _,[],h=>h.elim
theorem zcl.cl {H:Hp} {a:Addr} {c:Cell} (h:zcl K G ι H a c):ClC ι.length c:=by
 cases c with
 | lst ds=>obtain ⟨_,_,_,q⟩:=h;exact q.cl
 | dct kvs=>obtain ⟨_,_,_,_,q⟩:=h;exact q.cl
 | ins cls fs=>obtain ⟨_,_,_,_,_,_,q⟩:=h;exact q.cl
 | tab x pos qual=>trivial
 | dead=>trivial
theorem FdOk.cut {H:Hp} {ι':List Addr} {n:Nat} {v:V} {fd:Fd} (h:FdOk K G ι' H v fd) (e:∀ k,k < n→ι[k]? = ι'[k]?) (hi:∀ b,b ∉ ι'→b ∉ ι) (c:ClF n fd):FdOk K G ι H v fd:=by
 cases fd with
 | val a=>exact Den.cut e h c
 | lst ds=>obtain ⟨b,xs,h1,h2,h3,h4,h5⟩:=h;exact ⟨b,xs,h1,h2,hi b h3,h4,h5.cut e c⟩
 | dct kvs=>obtain ⟨b,ws,h1,h2,h3,h4,h5,h6⟩:=h;exact ⟨b,ws,h1,h2,hi b h3,h4,h5,h6.cut e c⟩
theorem zbV.cut {H:Hp} {ι':List Addr} {n:Nat} (e:∀ k,k < n→ι[k]? = ι'[k]?) (hi:∀ b,b ∉ ι'→b ∉ ι):∀ {ws:List (Str × V)} {fs:List (Str × Fd)},zbV K G ι' H ws fs→ClFs n fs→zbV K G ι H ws fs
 | [],[],_,_=>trivial
 | (_,_) :: _,(_,_) :: _,h,c=>⟨h.1,h.2.1.cut e hi c.1,zbV.cut e hi h.2.2 c.2⟩
 | [],_ :: _,h,_=>h.elim
 | _ :: _,[],h,_=>h.elim
theorem zcl.cut {H:Hp} {ι':List Addr} {n:Nat} {a:Addr} {c:Cell} (h:zcl K G ι' H a c) (e:∀ k,k < n→ι[k]? = ι'[k]?) (hi:∀ b,b ∉ ι'→b ∉ ι) (hc:ClC n c):zcl K G ι H a c:=by
 cases c with
 | lst ds=>obtain ⟨g,xs,h1,h2⟩:=h;exact ⟨g,xs,h1,h2.cut e hc⟩
 | dct kvs=>obtain ⟨g,ws,h1,h2,h3⟩:=h;exact ⟨g,ws,h1,h2,h3.cut e hc⟩
 | ins cls fs=>obtain ⟨g,C,dx,ws,h0,h1,h2⟩:=h;exact ⟨g,C,dx,ws,h0,h1,h2.cut e hi hc⟩
 | tab x pos qual=>exact h
 | dead=>trivial
theorem Ext.cut {G':Hp} {ι':List Addr} (e:Ext G ι G' ι'):∀ k,k < ι.length→ι[k]? = ι'[k]?:=fun k hk=>by
 rw [List.getElem?_eq_getElem hk,e.pre k _ (List.getElem?_eq_getElem hk)]
theorem Wd.cut {G' H H':Hp} {ι':List Addr} {Ω Ω':Sto} (w:Wd K G ι Ω H) (w':Wd K G' ι' Ω' H') (e:Ext G ι G' ι') (ht:Ω'.take Ω.length=Ω):Wd K G' ι Ω H' where
 sub:=w'.sub
 inj:=w.inj
 len:=w.len
 live:=fun a ha=>by
  obtain ⟨k,hk,ea⟩:=List.getElem_of_mem ha
  exact w'.live a (List.mem_of_getElem? (e.pre k a (by rw [← ea];exact List.getElem?_eq_getElem hk)))
 cel:=fun k c a h1 h2=>by
  have hk:k < Ω.length:=(List.getElem?_eq_some_iff.mp h1).1
  have h1':Ω'[k]? = some c:=by
   rw [← ht,List.getElem?_take] at h1
   rw [if_pos hk] at h1;exact h1
  have q:=w'.cel k c a h1' (e.pre k a h2)
  have q0:=w.cel k c a h1 h2
  cases c with
  | lst ds =>
   obtain ⟨g,xs,h3,h4⟩:=q
   obtain ⟨_,_,_,h5⟩:=q0
   exact ⟨g,xs,h3,h4.cut e.cut h5.cl⟩
  | dct kvs =>
   obtain ⟨g,ws,h3,h4,h5⟩:=q
   obtain ⟨_,_,_,_,h6⟩:=q0
   exact ⟨g,ws,h3,h4,h5.cut e.cut h6.cl⟩
  | ins cls fs =>
   obtain ⟨g,C,dx,ws,h0,h3,h4⟩:=q
   obtain ⟨_,_,_,_,_,_,h6⟩:=q0
   exact ⟨g,C,dx,ws,h0,h3,h4.cut (n:=ι.length) e.cut (fun b hb z=>hb (by
    obtain ⟨k,hk,ea⟩:=List.getElem_of_mem z
    exact List.mem_of_getElem? (e.pre k b (by rw [← ea];exact List.getElem?_eq_getElem hk)))) h6.cl⟩
  | tab x pos qual=>exact q
  | dead=>trivial
 sep:=fun b k i k' i' h1 h2=>by
  have back:∀ {k i},zbS H' ι Ω k i b→zbS H' ι' Ω' k i b:=fun {k i} h=>h.to (fun a ha=>⟨e.pre k a ha,fun _ z=>z⟩) fun cls fs q=>by
   have hk:k < Ω.length:=(List.getElem?_eq_some_iff.mp q).1
   rw [← ht,List.getElem?_take,if_pos hk] at q
   exact q
  exact w'.sep b k i k' i' (back h1) (back h2)
end
open Classical in
noncomputable def trim (Ω:Sto):Option (Rs A × Sto)→Option (Rs A × Sto)
 | some (.ok a,Ω')=>if Ω'.take Ω.length=Ω∧Cl Ω.length a then some (.ok a,Ω) else some (.ok a,Ω')
 | some (.exc x,Ω')=>if Ω'.take Ω.length=Ω∧ClL Ω.length (x.fs.map (·.2)) then some (.exc x,Ω) else some (.exc x,Ω')
 | none=>none
theorem zmc {K:PySem.W.Frag} {W:WX} {G H:Hp} {ι:List Addr} {Ω:Sto} {σ:L2.St} {Q:VK} {r:Option (Rs A × Sto)} (w:Wd K G ι Ω H) (h:Post K (Den K) W G ι σ Q (trim Ω r)):Post K (Den K) W G ι σ Q r:=by
 match r,h with
 | some (.ok a,Ω'),h =>
  simp only [trim] at h
  split at h
  ·rename_i hc
   exact fun v H' G' ι' e w' d=>h v H' G' ι ⟨e.same,fun _ _ q=>q⟩ (w.cut w' e hc.1) (d.cut e.cut (by rw [w.len];exact hc.2))
  ·exact h
 | some (.exc x,Ω'),h =>
  simp only [trim] at h
  split at h
  ·rename_i hc
   intro cls dx H' G' ι' e w' d
   refine h cls dx H' G' ι ⟨e.same,fun _ _ q=>q⟩ (w.cut w' e hc.1) d
  ·exact h
@[simp] def outR:OS→Option (Rs A × Sto)
 | some (.nx,_,Ω)=>some (.ok .non,Ω)
 | some (.ret a,_,Ω)=>some (.ok a,Ω)
 | some (.exc x,_,Ω)=>some (.exc x,Ω)
 | _=>none
@[simp] def ev0 (n:Nat) (ds:List A):Ev:=ds.map some ++ List.replicate (n - ds.length) none
@[simp] noncomputable def fnF (n:Nat) (b:MS):List A→Mo A:=fun ds Ω=>trim Ω (outR (b (ev0 n ds) Ω))
def spV (K:PySem.W.Frag) (n:Nat) (F:List A→Mo A):Sp:=fun vs H Q E=>vs.length=n∧∃ G ι Ω ds,Wd K G ι Ω H∧DenL K G ι vs ds∧Post K (Den K) (fun _=>E) G ι [] Q (F ds Ω)
abbrev DefV (P:Program) (w:World) (K:PySem.W.Frag) (mg:Str→Option Value) (base:Heap) (x:Str) (k:Nat) (ps:List Str) (F:List A→Mo A):Prop:=DefX P w K mg base x k ps (spV K ps.length F)
theorem zi5 {K:PySem.W.Frag} {G:Hp} {ι:List Addr} {N:List Str} {vs:List V} {ds:List A} (d:DenL K G ι vs ds):EnvR K G ι (L2.start N vs) (ev0 N.length ds):=by
 unfold L2.start ev0
 have hl:=d.length
 refine ⟨by simp [hl],fun i a h=>?_⟩
 by_cases hi:i < ds.length
 ·rw [List.getElem?_append_left (by simpa using hi)] at h
  rw [List.getElem?_map] at h
  cases e:ds[i]? with
  | none=>rw [e] at h;cases h
  | some a' =>
   rw [e] at h
   cases h
   obtain ⟨v,q1,q2⟩:=d.get e
   refine ⟨v,?_,q2⟩
   rw [List.getElem?_append_left (by simp;omega),List.getElem?_map,q1]
   rfl
 ·rw [List.getElem?_append_right (by simpa using hi)] at h
  have:=List.mem_of_getElem? h
  simp at this
theorem zfD {K:PySem.W.Frag} {N:List Str} {t:TS} {b:MS} {H:Hp} {vs:List V} {Q:VK} {E:XK} {n:Nat} (s:SimS K (fun _=>E) t b) (h:spV K n (fnF N.length b) vs H Q E):t { nx:=fun _ H'=>Q .non H',rt:=Q } (L2.start N vs) H:=by
 obtain ⟨hl,G,ι,Ω,ds,w,d,q⟩:=h
 refine s G ι Ω H _ (ev0 N.length ds) _ w (zi5 d) ?_
 have q':=zmc w q
 revert q'
 generalize b (ev0 N.length ds) Ω=r
 intro q'
 match r,q' with
 | some (.nx,ρ',Ω'),q'=>exact fun σ' H' G' ι' e w' r'=>q' .non H' G' ι' e w' (by simp only [Den])
 | some (.ret a,ρ',Ω'),q'=>exact fun σ' H' G' ι' e w' r' v d'=>q' v H' G' ι' e w' d'
 | some (.exc x,ρ',Ω'),q'=>exact fun σ' H' G' ι' e w' r' cls dx d'=>q' cls dx H' G' ι' e w' d'
 | some (.bk,ρ',Ω'),q'=>exact False.elim q'
 | some (.ct,ρ',Ω'),q'=>exact False.elim q'
section
variable {P:Program} {w:World} {K:PySem.W.Frag} {mg:Str→Option Value} {base:Heap}
theorem zkJ {x:Str} {st:Stmt} {N ps:List Str} {k:Nat} {b:MS} {f:Addr} {fd:FuncData} (F:Fun K x x st f fd) (S:zat N ps (zab st))
  (hbody:∀ (f:Addr) (cdv:Value) (A:Around) (outer:List Env) (s:Shared) (H:Hp) (E:XK),Room k (A.deeper (envOfC x (zab st) s.heap.objs.size f cdv)) →
   VSs (cxX P w K mg base N x (zab st) f cdv A outer s H E) (fun _=>E) (zaj st) b):FnOk P w K mg base (CXE P w) (k + 1) f fd ps (spV K ps.length (fnF N.length b)):=by
 obtain ⟨oc,od,kV,doc,pm,an,cdv,ct,osl,rfl,lk,hcd⟩:=F.ex
 refine zjX lk hcd S (fun vs H Q E h=>h.1) fun A outer s H vs Q E hr hsp=>?_
 obtain ⟨t,p,q⟩:=hbody f cdv A outer s H E hr
 exact ⟨t,zjq p,zfD q hsp⟩
theorem DefV.of {x:Str} {st:Stmt} {N ps:List Str} {k:Nat} {b:MS} (h:HasFn K mg x st) (S:zat N ps (zab st))
  (bind:∀ (kV doc pm:Value) (an:Option Addr) (cdv ct:Value) (us:List Value),us.length=ps.length→bindArgs (PySem.W.fnOf x x (zav st) (zaj st) (zab st) .none kV doc pm an cdv ct) ⟨us,[]⟩ = pure (ps.zip us))
  (hbody:∀ (f:Addr) (cdv:Value) (A:Around) (outer:List Env) (s:Shared) (H:Hp) (E:XK),Room k (A.deeper (envOfC x (zab st) s.heap.objs.size f cdv)) →
   VSs (cxX P w K mg base N x (zab st) f cdv A outer s H E) (fun _=>E) (zaj st) b):DefV P w K mg base x (k + 1) ps (fnF N.length b):=by
 obtain ⟨f,fd,hm,F⟩:=h.ex
 exact ⟨f,fd,zkJ F S hbody,hm,F.kp,F.binds bind⟩
abbrev DefN (P:Program) (w:World) (K:PySem.W.Frag) (mg:Str→Option Value) (base:Heap) (x:Str) (k:Nat) (ps:List Str) (F:List A→Mo A):Prop:=Def P w K mg base x k ps (fun vs H Q _=>spV K ps.length F vs H Q fun _ _ _=>False)
theorem zg3 {k:Nat} {f:Addr} {fd:FuncData} {ps:List Str} {sp:Sp} (F:FnOk P w K mg base (CXE P w) k f fd ps sp):FnOk P w K mg base CX0 k f fd ps (fun vs H Q _=>sp vs H Q fun _ _ _=>False) :=
 ⟨fun vs H Q E h=>F.len _ _ _ _ h,fun A outer s H args us vs Q E hr e0 hb r hsp=>codeAny_mono (F.run A outer s H args us vs Q _ hr e0 hb r hsp) fun r s' hq=>by
  cases r with
  | error ev=>obtain ⟨x,cls,dx,H',_,_,_,_,_,_,q⟩:=hq;exact q.elim
  | ok fl=>cases fl <;> exact hq⟩
theorem DefV.calm {x:Str} {k:Nat} {ps:List Str} {F:List A→Mo A} (D:DefV P w K mg base x k ps F):DefN P w K mg base x k ps F:=by
 obtain ⟨f,fd,h1,h2,h3,h4⟩:=D.ex
 exact ⟨f,fd,zg3 h1,h2,h3,h4⟩
def zkm (K:PySem.W.Frag):Sp:=fun vs H Q _=>∃ (a:Addr) (ns:List Int),vs=[.ref a]∧SqL K H a (ns.map V.int)∧ns.length ≤ 63∧∀ H',Q (.bl true) H'
theorem znW {fa:Addr} {fd:FuncData} {k:Nat} {F:List A→Mo A} (h1:FnOk P w K mg base (CXE P w) k fa fd ["_law_script"] (spV K 1 F)) (hF:∀ ns:List Int,ns.length ≤ 63→∃ Ω,F [.scr ns] []=some (.ok (.bl true),Ω)) :
  FnOk P w K mg base CX0 k fa fd ["_law_script"] (zkm K):=by
 refine (zg3 h1).imp fun vs H Q E hq=>?_
 obtain ⟨a,ns,rfl,hs,hl,q⟩:=hq
 obtain ⟨Ω,e⟩:=hF ns hl
 refine ⟨rfl,H,[],[],[.scr ns],⟨Same.refl _,List.nodup_nil,rfl,fun a ha=>by simp at ha,fun k c a h=>by simp at h,fun b k i k' i' h=>by obtain ⟨_,_,_,_,_,_,_,_,_,q,_⟩:=h;simp at q⟩, .cons (by simp only [Den];exact ⟨a,rfl,hs⟩) .nil,?_⟩
 rw [e]
 intro v H' G' ι' _ _ d
 simp only [Den] at d
 subst d
 exact q H'
end
section
variable {X:Cx} {W:WX} {x:Str} {p pos:Pos} {e:Expr} {es:List Expr} {fs:Ev→Mo (List A)}
@[simp] def zaP (n:Nat) (F:List A→Mo A):List A→Mo A:=fun as=>if as.length=n then F as else stuck
theorem zgI {K:PySem.W.Frag} {G G1:Hp} {ι ι1:List Addr} {σ:L2.St} {Q:VK} {r:Option (Rs A × Sto)} {W:WX} (h:Post K (Den K) W G ι σ Q r) (x1:Ext G ι G1 ι1):Post K (Den K) (fun _=>fun cls dx H'=>W σ cls dx H') G1 ι1 [] Q r:=by
 match r,h with
 | some (.ok a,Ω2),h=>exact fun v H' G' ι' x2 w2 d2=>h v H' G' ι' (x1.trans x2) w2 d2
 | some (.exc a,Ω2),h=>exact fun cls dx H' G' ι' x2 w2 d2=>h cls dx H' G' ι' (x1.trans x2) w2 d2
theorem zbY {k:Nat} {ps:List Str} {F:List A→Mo A} (T:zde X W) (D:DefV X.prog X.w X.K X.mg X.base x k ps F) (hr:Room k X.A) (hg:Gl X x) (ha:VA X W (e :: es) fs)
  (hdb:(x == ("__debug__" : Str))=false:=by decide) (he:starEach (e :: es) X.env=(false,eval e X.env) :: starEach es X.env:=by rfl) (hpl:(backTo pos (starEach es X.env)).any (·.1)=false:=by rfl):VE X W (.Call (.Name x p) (e :: es) [] pos) (vCl (zaP ps.length F) fs):=by
 obtain ⟨t,p1,s1⟩:=ha
 refine ⟨_,zk6 T D hr hg p1 hdb he hpl,fun G ι Ω H σ ρ Q w r h=>?_⟩
 refine s1 G ι Ω H σ ρ _ w r (Post.mb h fun as Ω1 vs H1 G1 ι1 x1 w1 d1 h1=>?_)
 unfold zaP at h1
 split at h1
 ·rename_i hl
  exact ⟨by rw [d1.length];exact hl,G1,ι1,Ω1,as,w1,d1,zgI h1 (Ext.refl _ _)⟩
 ·exact False.elim h1
@[simp] def noX (F:List A→Mo A):List A→Mo A:=fun as Ω=>match F as Ω with
 | some (.exc _,_)=>none
 | r=>r
theorem zlu {k:Nat} {ps:List Str} {F:List A→Mo A} (D:DefN X.prog X.w X.K X.mg X.base x k ps F) (hr:Room k X.A) (hg:Gl X x) (ha:VA X W (e :: es) fs)
  (hdb:(x == ("__debug__" : Str))=false:=by decide) (he:starEach (e :: es) X.env=(false,eval e X.env) :: starEach es X.env:=by rfl) (hpl:(backTo pos (starEach es X.env)).any (·.1)=false:=by rfl):VE X W (.Call (.Name x p) (e :: es) [] pos) (vCl (noX (zaP ps.length F)) fs):=by
 obtain ⟨t,p1,s1⟩:=ha
 refine ⟨_,zmW D hr hg p1 hdb he hpl,fun G ι Ω H σ ρ Q w r h=>?_⟩
 refine s1 G ι Ω H σ ρ _ w r (Post.mb h fun as Ω1 vs H1 G1 ι1 x1 w1 d1 h1=>?_)
 unfold noX zaP at h1
 rw [List.append_nil]
 by_cases hl:as.length=ps.length
 ·rw [if_pos hl] at h1
  refine ⟨by rw [d1.length];exact hl,G1,ι1,Ω1,as,w1,d1,?_⟩
  revert h1
  generalize F as Ω1=q2
  intro h1
  match q2,h1 with
  | some (.ok a,Ω2),h1=>exact h1
 ·rw [if_neg hl] at h1
  exact False.elim h1
abbrev cI (i:Int):Ev→Mo A:=fun _=>ret (.int i)
abbrev cB (i:Bool):Ev→Mo A:=fun _=>ret (.bl i)
abbrev cS (i:Str):Ev→Mo A:=fun _=>ret (.str i)
abbrev cN:Ev→Mo A:=fun _=>ret .non
abbrev cT (n:String):Ev→Mo A:=fun _=>ret (.ty n)
abbrev a0:Ev→Mo (List A):=fun _=>ret []
abbrev sl0:Ev→Mo (Option Int):=fun _=>ret none
end
end V2
namespace V2
open PySem L2
section
variable {α β:Type} {Ω Ω':Sto} {a:A}
@[simp] theorem zoT (x:α) (k:α→Mo β):mb (ret x) k=k x:=rfl
theorem zbv {m:Mo α} {k:α→Mo β} {x:α} (h:m Ω=some (.ok x,Ω')):mb m k Ω=k x Ω':=by unfold mb;rw [h]
@[simp] theorem zoz (x:α) (k:α→Mo β):mb (need (some x)) k=k x:=rfl
theorem zmS {p:Prop} [Decidable p] (k:Unit→Mo β) (h:p):mb (chk p) k=k ():=by funext Ω;simp [mb,chk,h]
@[simp] theorem zoR (x:α):(ret x:Mo α) Ω=some (.ok x,Ω):=rfl
@[simp] theorem zmB:trim Ω (some (.ok a,Ω))=some (.ok a,Ω):=by simp only [trim];split <;> rfl
theorem zkc {Δ:Sto} (h:Cl Ω.length a):trim Ω (some (.ok a,Ω ++ Δ))=some (.ok a,Ω):=by
 simp only [trim]
 rw [if_pos ⟨by simp,h⟩]
@[simp] theorem zoP (x:α) (ρ:Ev) (k:α→Sto→OS):sM (ret x) ρ k=k x:=rfl
theorem zeg {m:Mo α} {ρ:Ev} {k:α→Sto→OS} {x:α} (h:m Ω=some (.ok x,Ω')):sM m ρ k Ω=k x Ω':=by unfold sM;rw [h]
@[simp] theorem zhx (ρ:Ev):outR (some (.ret a,ρ,Ω))=some (.ok a,Ω):=rfl
@[simp] theorem zfE (ρ:Ev):outR (some (.nx,ρ,Ω))=some (.ok .non,Ω):=rfl
theorem zax {f g:MS} {ρ ρ1:Ev} (h:f ρ Ω=some (.nx,ρ1,Ω')):sSeq f g ρ Ω=g ρ1 Ω':=by unfold sSeq;rw [h]
theorem zlD {f g:MS} {ρ ρ1:Ev} (h:f ρ Ω=some (.ret a,ρ1,Ω')):sSeq f g ρ Ω=some (.ret a,ρ1,Ω'):=by unfold sSeq;rw [h]
theorem ze1 {α:Type} (xs:List α) (n:Nat):atI xs (n:Int)=xs[n]?:=by
 unfold atI ixN
 rw [if_pos (by omega)]
 by_cases h:(n:Int) < xs.length
 ·rw [if_pos h];simp
 ·rw [if_neg h];simp;omega
theorem zgK {α:Type} (xs:List α) (n:Nat):atI xs (OfNat.ofNat n:Int)=xs[n]?:=ze1 xs n
theorem zj9 {α:Type} (xs:List α):atI xs 0=xs[0]?:=ze1 xs 0
theorem zmn {α:Type} (xs:List α):atI xs 1=xs[1]?:=ze1 xs 1
end
@[simp] theorem zmt:isTy "int" "int" = some true:=by simp [isTy]
@[simp] theorem zlI:isTy "int" "bool" = some false:=by simp [isTy]
@[simp] theorem zjw:isTy "tuple" "tuple" = some true:=by simp [isTy]
@[simp] theorem zmw (Ω:Sto) (ds:List A):zar Ω (.lst ds)=some ds:=rfl
@[simp] theorem zmv (Ω:Sto) (ns:List Int):zar Ω (.scr ns)=some (ns.map A.int):=rfl
@[simp] theorem zmo (Ω:Sto) (ds:List A):zar Ω (.tup ds)=none:=rfl
@[simp] theorem zmp (Ω:Sto) (i:Int):zar Ω (.int i)=none:=rfl
@[simp] theorem zms (Ω:Sto) (ds:List A):za7 Ω (.lst ds)=some ds:=rfl
@[simp] theorem zmq (Ω:Sto) (ns:List Int):za7 Ω (.scr ns)=some (ns.map A.int):=rfl
@[simp] theorem zmr (Ω:Sto) (ds:List A):za7 Ω (.tup ds)=some ds:=rfl
@[simp] theorem zmu (Ω:Sto) (k:Nat):za7 Ω (.cel k)=zar Ω (.cel k):=rfl
@[simp] theorem zok (Ω:Sto) (i:Int):tyA Ω (.int i)=some "int":=rfl
@[simp] theorem zoQ (Ω:Sto) (i:Bool):tyA Ω (.bl i)=some "bool":=rfl
@[simp] theorem zoL (Ω:Sto) (i:Str):tyA Ω (.str i)=some "str":=rfl
@[simp] theorem zn9 (Ω:Sto):tyA Ω .non=some "NoneType":=rfl
@[simp] theorem zoE (Ω:Sto) (ds:List A):tyA Ω (.tup ds)=some "tuple":=rfl
@[simp] theorem zoc (Ω:Sto) (ds:List A):tyA Ω (.lst ds)=some "list":=rfl
@[simp] theorem zns:ziK .non=some true:=rfl
@[simp] theorem znN (i:Int):ziK (.int i)=some false:=rfl
@[simp] theorem znu (ds:List A):ziK (.tup ds)=some false:=rfl
@[simp] theorem zmz (ds:List A):ziK (.lst ds)=some false:=rfl
@[simp] theorem zn3 (b:Bool):ziK (.bl b)=some false:=rfl
theorem zaE {Ω:Sto} {k:Nat} {ds:List A} (h:Ω[k]? = some (.lst ds)):zar Ω (.cel k)=some ds:=by simp [zar,h]
theorem zeG {Ω:Sto} {k:Nat} {ds:List A} (h:Ω[k]? = some (.lst ds)):zfb Ω (.cel k)=some (k,ds):=by simp [zfb,h]
theorem zi9 {Ω:Sto} {a:A} {ds:List A} (h:zar Ω a=some ds):isL Ω a:=⟨ds,h⟩
section
variable {ok:Sto→Prop} {g:A→MS} {b:MS} {x:A} {xs:List A} {ρ ρ0 ρ1:Ev} {Ω Ω0 Ω1:Sto} {a:A}
theorem zki (h:ok Ω):fFor ok g b [] ρ Ω=some (.nx,ρ,Ω):=by simp [fFor,h]
theorem zbp (h:ok Ω) (hg:g x ρ Ω=some (.nx,ρ0,Ω0)) (hb:b ρ0 Ω0=some (.nx,ρ1,Ω1)):fFor ok g b (x :: xs) ρ Ω=fFor ok g b xs ρ1 Ω1:=by simp [fFor,h,hg,hb]
theorem zl0 (h:ok Ω) (hg:g x ρ Ω=some (.nx,ρ0,Ω0)) (hb:b ρ0 Ω0=some (.ct,ρ1,Ω1)):fFor ok g b (x :: xs) ρ Ω=fFor ok g b xs ρ1 Ω1:=by simp [fFor,h,hg,hb]
theorem zfI (I:Nat→Ev→Sto→Prop) (hok:∀ i ρ Ω,I i ρ Ω→ok Ω):∀ (xs:List A) (j:Nat) (ρ:Ev) (Ω:Sto),I j ρ Ω →
  (∀ i x ρ Ω,xs[i]? = some x→I (j + i) ρ Ω→∃ ρ0 Ω0 ρ1 Ω1,g x ρ Ω=some (.nx,ρ0,Ω0)∧(b ρ0 Ω0=some (.nx,ρ1,Ω1)∨b ρ0 Ω0=some (.ct,ρ1,Ω1))∧I (j + i + 1) ρ1 Ω1) →
  ∃ ρ' Ω',fFor ok g b xs ρ Ω=some (.nx,ρ',Ω')∧I (j + xs.length) ρ' Ω'
 | [],j,ρ,Ω,h0,_=>⟨ρ,Ω,zki (hok _ _ _ h0),h0⟩
 | x :: xs,j,ρ,Ω,h0,turn=>by
  obtain ⟨ρ0,Ω0,ρ1,Ω1,e1,e2,e3⟩:=turn 0 x ρ Ω rfl h0
  obtain ⟨ρ',Ω',q1,q2⟩:=zfI I hok xs (j + 1) ρ1 Ω1 e3 fun i y ρ Ω hy hI=>by
   have:=turn (i + 1) y ρ Ω (by simpa using hy) (by rw [show j + (i + 1)=j + 1 + i by omega];exact hI)
   rwa [show j + (i + 1) + 1=j + 1 + i + 1 by omega] at this
  refine ⟨ρ',Ω',?_,by rw [List.length_cons,show j + (xs.length + 1)=j + 1 + xs.length by omega];exact q2⟩
  rcases e2 with e2 | e2
  ·rw [zbp (hok _ _ _ h0) e1 e2,q1]
  ·rw [zl0 (hok _ _ _ h0) e1 e2,q1]
end
section
variable {c:Ev→Mo Bool} {b:MS} {n:Nat} {ρ ρ1:Ev} {Ω Ω1 Ω2:Sto} {a:A}
end
end V2
namespace V2
open PySem PySem.Spec PyProof.Rows L2
section
variable {X:Cx} {pins:List (Addr × Obj)} {σ:L2.St} {H:Hp} {s:Shared} {h':Heap}
end
section
variable {X:Cx} {W:WX} {pos:Pos}
end
end V2
namespace V2
open PySem PySem.Spec PyProof.Rows L2
def lcEv (n:Nat) (js:List Nat) (ρ:Ev):Ev:=List.replicate n none ++ js.map (fun j=>(ρ[j]?).join)
def VIf (X:Cx) (W:WX) (ifs:List Expr) (f:Ev→Mo Bool):Prop:=∃ t,PIf X ifs t∧Sim X.K relB W t f
abbrev yesM:Ev→Mo Bool:=fun _=>ret true
theorem zk1 {X:Cx} {W:WX}:VIf X W [] yesM:=⟨_,zlg,fun _ _ _ _ _ _ _ w _ q=>zbw w rfl q⟩
theorem zlo {X:Cx} {W:WX} {c:Expr} {f:Ev→Mo Bool} (h:VT X W c f):VIf X W [c] f:=let ⟨t,p,s⟩:=h; ⟨t,zkY p,s⟩
open Classical in
noncomputable def fLC (ok:Sto→Prop) (g:A→MS) (c:Ev→Mo Bool) (e:Ev→Mo A) (n:Nat):List A→Ev→Sto→Option (Ev × Sto)
 | [],ρ,Ω=>if ok Ω then some (ρ,Ω) else none
 | x :: xs,ρ,Ω=>if ok Ω then (match g x ρ Ω with
  | some (.nx,ρ1,Ω1)=>(match c ρ1 Ω1 with
   | some (.ok true,Ω2)=>(match e ρ1 Ω2 with
    | some (.ok y,Ω3)=>(match Ω3[n]? with
     | some (.lst ys)=>if ys.length < sizeLine then fLC ok g c e n xs ρ1 (Ω3.set n (.lst (ys ++ [y]))) else none
     | _=>none)
    | _=>none)
   | some (.ok false,Ω2)=>fLC ok g c e n xs ρ1 Ω2
   | _=>none)
  | _=>none) else none
open Classical in
noncomputable def zld (cf:Bool) (Ω1:Sto) (r:Option (Ev × Sto)):Option (Rs A × Sto):=match r with
 | some (_,Ω')=>(match Ω'[Ω1.length]? with
  | some (.lst ys)=>if cf then some (.ok (.cel Ω1.length),Ω') else if Ω'.take Ω1.length=Ω1∧ClL Ω1.length ys then some (.ok (.lst ys),Ω1) else some (.ok (.lst ys),Ω'.set Ω1.length .dead)
  | _=>none)
 | none=>none
noncomputable def vLC (cf:Bool) (n:Nat) (js:List Nat) (fi:Ev→Mo Src) (g:A→MS) (c:Ev→Mo Bool) (e:Ev→Mo A):Ev→Mo A:=fun ρ=>mb (fi ρ) fun S Ω1=>zld cf Ω1 (fLC S.ok g c e Ω1.length S.ds (lcEv n js ρ) (Ω1 ++ [.lst []]))
theorem znP {ok:Sto→Prop} {g:A→MS} {c:Ev→Mo Bool} {e:Ev→Mo A} {n:Nat} {xs:List A} {ρ:Ev} {Ω:Sto} {r:Ev × Sto} (h:fLC ok g c e n xs ρ Ω=some r):ok Ω:=by
 cases xs with
 | nil=>unfold fLC at h;by_cases hp:ok Ω;exact hp;rw [if_neg hp] at h;cases h
 | cons=>unfold fLC at h;by_cases hp:ok Ω;exact hp;rw [if_neg hp] at h;cases h
theorem zlC {K:PySem.W.Frag} {G:Hp} {ι:List Addr} {σ:L2.St} {ρ:Ev} (ls:List Str) (js:List Nat) (r:EnvR K G ι σ ρ):EnvR K G ι (lcSt ls js σ) (lcEv ls.length js ρ):=by
 unfold lcSt lcEv
 refine ⟨by simp,fun i d h=>?_⟩
 by_cases hi:i < ls.length
 ·rw [List.getElem?_append_left (by simpa using hi)] at h
  rw [List.getElem?_replicate,if_pos hi] at h
  cases h
 ·rw [List.getElem?_append_right (by simpa using Nat.le_of_not_lt hi),List.length_replicate,List.getElem?_map] at h
  cases e:js[i - ls.length]? with
  | none=>rw [e] at h;cases h
  | some j =>
   rw [e] at h
   have h':(ρ[j]?).join=some d:=Option.some.inj h
   obtain ⟨v,q1,q2⟩:=r.2 j d (join_some h')
   refine ⟨v,?_,q2⟩
   rw [List.getElem?_append_right (by simpa using Nat.le_of_not_lt hi),List.length_map,List.getElem?_map,e]
   show some (σ[j]?).join=_
   rw [q1];rfl
section
variable {K:PySem.W.Frag} {W:WX}
theorem znF {ls:List Str} {js:List Nat} {wi:TI} {tg:TG} {tc:TT} {te:TE} {fi:Ev→Mo Src} {g:A→MS} {c:Ev→Mo Bool} {e:Ev→Mo A} {cf:Bool} (W0:WX) (hi:Sim K (relI K) W wi fi) (hg:SimG K W0 tg g) (hc:Sim K relB W0 tc c) (he:Sim K (Den K) W0 te e) :
  Sim K (Den K) W (tLC ls js wi tg tc te) (vLC cf ls.length js fi g c e):=by
 intro G ι Ω H σ ρ Q w r h
 refine hi G ι Ω H σ ρ _ w r (Post.mb h fun S Ω1 J H1 G1 ι1 x1 w1 j1 h1=>?_)
 intro D hD
 unfold zld at h1
 cases er:fLC S.ok g c e Ω1.length S.ds (lcEv ls.length js ρ) (Ω1 ++ [.lst []]) with
 | none=>rw [er] at h1;exact False.elim h1
 | some rr =>
 obtain ⟨ρe,Ωe⟩:=rr
 rw [er] at h1
 simp only at h1
 have hw0:Wd K G1 (ι1 ++ [D]) (Ω1 ++ [.lst []]) (upd H1 D (.lst [])):=w1.cell hD ⟨w1.zfG hD,[],zaw, .nil⟩
 have r0:EnvR K G1 (ι1 ++ [D]) (lcSt ls js σ) (lcEv ls.length js ρ):=zlC ls js (r.ext (x1.trans (Ext.cell D)))
 have hDk:(ι1 ++ [D])[Ω1.length]? = some D:=by rw [← w1.len];simp
 refine ⟨fun i m σ' H'=>m=S.ds.length - i∧i ≤ S.ds.length∧∃ G' ι' Ω' ρ',Ext G1 (ι1 ++ [D]) G' ι'∧Wd K G' ι' Ω' H'∧EnvR K G' ι' σ' ρ'∧fLC S.ok g c e Ω1.length (S.ds.drop i) ρ' Ω'=some (ρe,Ωe),
  ⟨_,rfl,Nat.zero_le _,G1,_,_,_,Ext.refl _ _,hw0,r0,by simpa using er⟩,?_⟩
 rintro i m σ' H' ⟨rfl,hil,G',ι',Ω',ρ',e',w',r',h'⟩
 have hok:=znP h'
 have eJ:Ext G1 ι1 G' ι':=(Ext.cell D).trans e'
 by_cases hlt:i < S.ds.length
 ·right
  refine ⟨j1.go G' ι' Ω' H' eJ w' hok i hlt,fun σ2 H2=>∃ G2 ι2 Ω2 ρ2,Ext G1 (ι1 ++ [D]) G2 ι2∧Wd K G2 ι2 Ω2 H2∧EnvR K G2 ι2 σ2 ρ2∧fLC S.ok g c e Ω1.length (S.ds.drop (i + 1)) ρ2 Ω2=some (ρe,Ωe),fun σ2 H2 n=>?_,fun x H2 y=>?_⟩
  ·exact ⟨S.ds.length - (i + 1),by omega,rfl,hlt,n⟩
  ·obtain ⟨G2,e2,w2,d2⟩:=j1.yld G' ι' Ω' H' eJ w' hok i x H2 S.ds[i] (List.getElem?_eq_getElem hlt) y
   rw [List.drop_eq_getElem_cons hlt] at h'
   unfold fLC at h'
   rw [if_pos hok] at h'
   refine hg G2 ι' Ω' H2 σ' ρ' x S.ds[i] ⟨_,fun _ _=>False,fun _ _=>False,fun _ _=>False⟩ w2 (r'.ext e2) d2 ?_
   revert h'
   generalize g S.ds[i] ρ' Ω'=q
   intro h'
   split at h'
   ·rename_i ρ3 Ω3
    intro σ3 H3 G3 ι3 x3 w3 r3
    refine hc G3 ι3 Ω3 H3 σ3 ρ3 _ w3 r3 ?_
    revert h'
    generalize c ρ3 Ω3=q2
    intro h'
    split at h'
    ·rename_i Ω4
     intro b H4 G4 ι4 x4 w4 hb
     cases (show b=true from hb)
     rw [if_pos rfl]
     refine he G4 ι4 Ω4 H4 σ3 ρ3 _ w4 (r3.ext x4) ?_
     revert h'
     generalize e ρ3 Ω4=q3
     intro h'
     split at h'
     ·rename_i z Ω5
      intro v H5 G5 ι5 x5 w5 d5
      split at h'
      ·rename_i ys ey
       split at h'
       ·rename_i hl
        have eD:=(((e'.trans e2).trans x3).trans x4).trans x5
        have hk:=eD.pre _ _ hDk
        obtain ⟨gg,xs,q1,q2⟩:=w5.cel _ _ D ey hk
        refine ⟨xs,q1,by rw [q2.length];exact hl,G5,ι5,_,ρ3,eD,w5.put (c := .lst (ys ++ [z])) hk gg ⟨gg,_,zaw,q2.append (.cons d5 .nil)⟩,(r3.ext x4).ext x5,h'⟩
       ·cases h'
      ·cases h'
     ·cases h'
    ·rename_i Ω4
     intro b H4 G4 ι4 x4 w4 hb
     cases (show b=false from hb)
     rw [if_neg (by simp)]
     exact ⟨G4,ι4,Ω4,ρ3,((e'.trans e2).trans x3).trans x4,w4,r3.ext x4,h'⟩
    ·cases h'
   ·cases h'
 ·have hie:i=S.ds.length:=by omega
  subst hie
  left
  refine ⟨j1.stop G' ι' Ω' H' eJ w' hok _ (Nat.le_refl _),?_⟩
  rw [List.drop_length] at h'
  unfold fLC at h'
  rw [if_pos hok] at h'
  cases h'
  split at h1
  ·rename_i ys ey
   have hk:=e'.pre _ _ hDk
   obtain ⟨gg,xs,q1,q2⟩:=w'.cel _ _ D ey hk
   split at h1
   ·exact h1 _ H' G' ι' eJ w' (by simp only [Den];exact ⟨D,rfl,hk⟩)
   ·have wf:=w'.freeze hk gg q1
    split at h1
    ·rename_i hcut
     have eC:Ext G1 ι1 (upd G' D (.lst xs)) ι':=eJ.trans (Ext.new gg _)
     have wc:=w1.cut wf eC (by rw [List.take_set_of_le (Nat.le_refl _)];exact hcut.1)
     refine h1 _ H' _ ι1 ⟨eC.same,fun _ _ q=>q⟩ wc ?_
     simp only [Den]
     exact ⟨D,xs,rfl,zaw,(q2.ext (Ext.new gg _)).cut eC.cut (by rw [w1.len];exact hcut.2)⟩
    ·refine h1 _ H' _ ι' (eJ.trans (Ext.new gg _)) wf ?_
     simp only [Den]
     exact ⟨D,xs,rfl,zaw,q2.ext (Ext.new gg _)⟩
  ·exact False.elim h1
end
def tCan {α β:Type} (K:PySem.W.Frag) (rel:Rl α β) (W:WX) (f:Ev→Mo α):L2.St→Hp→(β→Hp→Prop)→Prop:=fun σ H Q=>∃ G ι Ω ρ,Wd K G ι Ω H∧EnvR K G ι σ ρ∧Post K rel W G ι σ Q (f ρ Ω)
def zmX (K:PySem.W.Frag) (W:WX) (g:A→MS):TG:=fun v σ H Q=>∃ G ι Ω ρ a D,Wd K G ι Ω H∧EnvR K G ι σ ρ∧Den K G ι v a∧za9 K W G ι D (g a ρ Ω)∧D.nx=Q
theorem zjb {α β:Type} {K:PySem.W.Frag} {rel:Rl α β} {W:WX} {f:Ev→Mo α}:Sim K rel W (tCan K rel W f) f:=fun G ι Ω H σ ρ Q w r h=>⟨G,ι,Ω,ρ,w,r,h⟩
theorem zj8 {K:PySem.W.Frag} {W:WX} {g:A→MS}:SimG K W (zmX K W g) g:=fun G ι Ω H σ ρ v a D w r d h=>⟨G,ι,Ω,ρ,a,D,w,r,d,h,rfl⟩
theorem VE.can {X:Cx} {W:WX} {e:Expr} {f:Ev→Mo A} (h:VE X W e f):PE X e (tCan X.K (Den X.K) W f):=by
 obtain ⟨t,p,s⟩:=h
 exact fun pins sh σ H Q I ⟨G,ι,Ω,ρ,w,r,q⟩=>p pins sh σ H Q I (s G ι Ω H σ ρ Q w r q)
theorem VIf.can {X:Cx} {W:WX} {ifs:List Expr} {f:Ev→Mo Bool} (h:VIf X W ifs f):PIf X ifs (tCan X.K relB W f):=by
 obtain ⟨t,p,s⟩:=h
 exact fun pins sh σ H Q I ⟨G,ι,Ω,ρ,w,r,q⟩=>p pins sh σ H Q I (s G ι Ω H σ ρ Q w r q)
theorem VG.can {X:Cx} {W:WX} {tg:Expr} {g:A→MS} (h:VG X W tg g):PG X tg (zmX X.K W g):=by
 obtain ⟨t,p,s⟩:=h
 exact fun pins sh σ H v u Q I rv ⟨G,ι,Ω,ρ,a,D,w,r,d,q,e⟩=>p pins sh σ H v u Q I rv (e ▸ s G ι Ω H σ ρ v a D w r d q)
abbrev noW:WX:=fun _ _ _ _=>False
theorem zm8 {X:Cx} {W:WX} {elt tg iter:Expr} {ifs:List Expr} {scope:Scope} {pos:Pos} {fi:Ev→Mo Src} {g:A→MS} {c:Ev→Mo Bool} {e:Ev→Mo A} (cf:Bool) (ls:List Str) (js:List Nat) (hc:X.calm=true) (L:LcOk X scope ls js) (hi:VI X W tg iter fi)
  (hb:∀ cl C s H fp,VG (lcCx X scope ls js cl C s H fp) noW tg g∧VIf (lcCx X scope ls js cl C s H fp) noW ifs c∧VE (lcCx X scope ls js cl C s H fp) noW elt e)
  (hs:∀ x,foldedSetIterable iter X.env x=pure x:=by intro _;rfl):VE X W (.ListComp elt [⟨tg,iter,ifs,0⟩] scope pos) (vLC cf ls.length js fi g c e):=by
 obtain ⟨t1,p1,s1⟩:=hi
 exact ⟨_,zoJ hc L p1 (fun cl C s H fp=>⟨(hb cl C s H fp).1.can,(hb cl C s H fp).2.1.can,(hb cl C s H fp).2.2.can⟩) hs,znF _ s1 zj8 zjb zjb⟩
end V2
namespace V2
open PySem PySem.Spec PyProof.Rows L2
section
variable {X:Cx} {W:WX}
end
end V2
namespace M
open PySem V2
noncomputable def zfk:MS :=
 (sSeq (sAsg (vOp (gMod) (vOp (gMul) (vOp (gAdd false) (vVar 0) (cI 1)) (vOp (gAdd false) (cI 48271) (vOp (gMul) (cI 118) (vVar 1)))) (cI 2147483629)) (gN 2))
  (sRet (vOp (gMod) (vOp (gAdd false) (vOp (gAdd false) (vOp (gMul) (vOp (gDiv) (vVar 2) (cI 977)) (cI 16807)) (vOp (gMul) (vVar 2) (vOp (gAdd false) (vOp (gMul) (vVar 1) (vVar 1)) (cI 7)))) (vVar 1)) (cI 2147483587))))
noncomputable def zaM:List A→Mo A:=fnF 3 zfk
noncomputable def zdp:MS :=
 (sSeq (sAsg (cI 0) (gN 2))
  (sSeq (sIf (zaI (vOp gLt (vVar 1) (vCl gLen (zac (vVar 0) a0))))
   (sAsg (vOp (gMod) (vOp gIx (vVar 0) (vVar 1)) (cI 2147483647)) (gN 2))
   sNx)
  (sRet (vCl (zaP 2 zaM) (zac (vVar 2) (zac (vOp (gAdd false) (vVar 1) (cI 101)) a0))))))
noncomputable def zaB:List A→Mo A:=fnF 3 zdp
end M
namespace M
open PySem V2
end M
namespace M
open PySem V2
end M
namespace V2
open PySem PySem.Spec PyProof.Rows L2
section
variable {K:PySem.W.Frag} {G:Hp} {ι:List Addr}
end
section
variable {X:Cx} {W:WX} {o i e:Expr} {pos:Pos} {fo fi fe:Ev→Mo A}
end
end V2
namespace V2
open PySem PySem.Spec PyProof.Rows L2
section
variable {X:Cx} {W:WX} {x:Str} {e:Expr} {es:List Expr} {np cpos pos:Pos} {fs:Ev→Mo (List A)}
@[simp] def ziW (x:Str) (f:Ev→Mo (List A)):MS:=fun ρ=>sM (f ρ) ρ fun as Ω=>if as.length ≤ sizeLine then some (.exc ⟨x,[]⟩,ρ,Ω) else none
theorem zks {C:Addr} (T:zde X W) (hc:X.calm=true) (O:OwnE X.K C) (hg:Gl X x) (hm:X.mg x=some (.ref C)) (hK:PySem.W.nsIn X.K mainGlobals x=some (some (.ref C))) (ha:VA X W (e :: es) fs)
  (hdb:(x == ("__debug__" : Str))=false:=by decide) (he:starEach (e :: es) X.env=(false,eval e X.env) :: starEach es X.env:=by rfl) (hpl:(backTo cpos (starEach (e :: es) X.env)).any (·.1)=false:=by rfl) :
  VS X W (.Raise (some (.Call (.Name x np) (e :: es) [] cpos)) none pos) (ziW x fs):=by
 obtain ⟨t,p,s⟩:=ha
 refine ⟨_,zkB T hc O hg hm p hdb he hpl,fun G ι Ω H σ ρ D w r h=>?_⟩
 refine s G ι Ω H σ ρ _ w r (za9.sM h r fun as Ω1 vs H1 G1 ι1 x1 w1 d1 h1=>?_)
 split at h1
 ·rename_i hl
  exact ⟨by rw [d1.length];exact hl,h1 σ H1 G1 ι1 (Ext.refl _ _) w1 (r.ext x1) _ _ ⟨⟨C,hK,rfl⟩, .inl ⟨rfl,rfl⟩⟩⟩
 ·exact False.elim h1
end
def VS0 (X:Cx) (W:WX) (st:Stmt) (f:MS):Prop:=∃ t,PS0 X st t∧SimS X.K W t f
def VSs0 (X:Cx) (W:WX) (st:List Stmt) (f:MS):Prop:=∃ t,PSs0 X st t∧SimS X.K W t f
section
variable {X:Cx} {W:WX} {st:Stmt} {rest:List Stmt} {f g:MS}
theorem VS.v0 (h:VS X W st f):VS0 X W st f:=let ⟨t,p,s⟩:=h; ⟨t,p.ps0,s⟩
theorem VSs.v0 (h:VSs X W rest f):VSs0 X W rest f:=let ⟨t,p,s⟩:=h; ⟨t,p.ps0,s⟩
theorem zgm (h1:VS0 X W st f) (h2:VSs0 X W rest g):VSs0 X W (st :: rest) (sSeq f g):=by
 obtain ⟨t,p1,s1⟩:=h1
 obtain ⟨u,p2,s2⟩:=h2
 exact ⟨_,zji p1 p2,zjl s1 s2⟩
end
def zif (K:PySem.W.Frag) (W:WX) (f:MS):TS:=fun D σ H=>∃ G ι Ω ρ,Wd K G ι Ω H∧EnvR K G ι σ ρ∧za9 K W G ι D (f ρ Ω)
theorem VSs.can {X:Cx} {W:WX} {st:List Stmt} {f:MS} (h:VSs X W st f):PSs X st (zif X.K W f):=by
 obtain ⟨t,p,s⟩:=h
 exact fun pins sh σ H D I ⟨G,ι,Ω,ρ,w,r,q⟩=>p pins sh σ H D I (s G ι Ω H σ ρ D w r q)
theorem VSs0.can {X:Cx} {W:WX} {st:List Stmt} {f:MS} (h:VSs0 X W st f):PSs0 X st (zif X.K W f):=by
 obtain ⟨t,p,s⟩:=h
 exact fun sh σ H D I ⟨G,ι,Ω,ρ,w,r,q⟩=>p sh σ H D I (s G ι Ω H σ ρ D w r q)
def zjd (i:Nat):OS→OS
 | some (.exc _,_,_)=>none
 | some (o,ρ,Ω)=>some (o,ρ.set i none,Ω)
 | none=>none
open Classical in
noncomputable def sTry (i:Nat) (sub:Str→Bool) (fb:MS) (fh:Addr→Exc→MS):MS:=fun ρ Ω=>match fb ρ Ω with
 | some (.exc e,ρ1,Ω1)=>if sub e.cls=true then (if hr:∃ r,∀ p,zjd i (fh p e (ρ1.set i (some (.adr p))) Ω1)=some r then some (Classical.choose hr) else none) else none
 | r=>r
theorem zmF {i:Nat} {sub:Str→Bool} {fb:MS} {fh:Addr→Exc→MS} {ρ ρ1:Ev} {Ω Ω1:Sto} {e:Exc} {r:Out × Ev × Sto} (h:fb ρ Ω=some (.exc e,ρ1,Ω1)) (hs:sub e.cls=true) (hr:∀ p,zjd i (fh p e (ρ1.set i (some (.adr p))) Ω1)=some r):sTry i sub fb fh ρ Ω=some r:=by
 have hx:∃ r,∀ p,zjd i (fh p e (ρ1.set i (some (.adr p))) Ω1)=some r:=⟨r,hr⟩
 have e1:=Classical.choose_spec hx 0
 rw [hr 0] at e1
 simp only [sTry,h,hs,if_true]
 rw [dif_pos hx,← e1]
theorem zla {K:PySem.W.Frag} {W:WX} {C:Addr} {i:Nat} {sub:Str→Bool} {fb:MS} {fh:Addr→Exc→MS}
  (hsub:∀ n E,sub n=true→PySem.W.nsIn K mainGlobals n=some (some (.ref E))→PySem.W.subIn K (.ref E) (.ref C)=some true) :
  SimS K W (tTry (fun W=>zif K W fb) (tH K C i (fun x cls dx D σ H=>∃ e:Exc,(∃ E,PySem.W.nsIn K mainGlobals e.cls=some (some (.ref E))∧cls = .ref E)∧zif K noW (fh x e) D σ H) tNoH)) (sTry i sub fb fh):=by
 intro G ι Ω H σ ρ D w r h
 refine ⟨G,ι,Ω,ρ,w,r,?_⟩
 unfold sTry at h
 revert h
 generalize fb ρ Ω=q
 intro h
 match q,h with
 | none,h=>exact h
 | some (.nx,ρ1,Ω1),h=>exact h
 | some (.bk,ρ1,Ω1),h=>exact h
 | some (.ct,ρ1,Ω1),h=>exact h
 | some (.ret a,ρ1,Ω1),h=>exact h
 | some (.exc e,ρ1,Ω1),h =>
  simp only at h
  split at h
  ·rename_i hs
   split at h
   ·rename_i hr
    intro σ' H' G' ι' x' w' r' cls dx hx x hxn
    obtain ⟨⟨E,hE,rfl⟩,_⟩:=hx
    refine ⟨E,true,rfl,hsub _ E hs hE,?_⟩
    rw [if_pos rfl]
    refine ⟨e,⟨E,hE,rfl⟩,G',ι',Ω1,ρ1.set i (some (.adr x)),w',r'.set i (by simp only [Den]),?_⟩
    have hq:=Classical.choose_spec hr x
    revert hq h
    generalize Classical.choose hr=rr
    generalize fh x e (ρ1.set i (some (.adr x))) Ω1=q2
    intro h hq
    match q2,hq with
    | some (.nx,ρ2,Ω2),hq=>cases hq;exact fun σ2 H2 G2 ι2 x2 w2 r2=>h (σ2.set i none) H2 G2 ι2 (x'.trans x2) w2 (r2.unset i none)
    | some (.bk,ρ2,Ω2),hq=>cases hq;exact fun σ2 H2 G2 ι2 x2 w2 r2=>h (σ2.set i none) H2 G2 ι2 (x'.trans x2) w2 (r2.unset i none)
    | some (.ct,ρ2,Ω2),hq=>cases hq;exact fun σ2 H2 G2 ι2 x2 w2 r2=>h (σ2.set i none) H2 G2 ι2 (x'.trans x2) w2 (r2.unset i none)
    | some (.ret a,ρ2,Ω2),hq=>cases hq;exact fun σ2 H2 G2 ι2 x2 w2 r2=>h (σ2.set i none) H2 G2 ι2 (x'.trans x2) w2 (r2.unset i none)
   ·exact False.elim h
  ·exact False.elim h
theorem znk {X:Cx} {W:WX} {C:Addr} {i:Nat} {n y:Str} {np pos hpos:Pos} {body:List Stmt} {b₀:Stmt} {suite:List Stmt} {sub:Str→Bool} {fb:MS} {fh:Addr→Exc→MS} (t:Top1 X) (hx:X.ex=[]) (c:XC X.K C) (hg:Gl X y) (hm:X.mg y=some (.ref C)) (hN:X.N.Nodup) (hi:X.N[i]? = some n) (hl:X.env.scope.names.lookup n=some .local)
  (hsub:∀ n E,sub n=true→PySem.W.nsIn X.K mainGlobals n=some (some (.ref E))→PySem.W.subIn X.K (.ref E) (.ref C)=some true)
  (hb:∀ W,VSs0 (X.wish (XE X W)) W body fb) (hh:∀ (p:Addr) (oe:Obj) (e:Exc),(∃ E,PySem.W.nsIn X.K mainGlobals e.cls=some (some (.ref E))∧oe.cls = .ref E)→VSs (X.zby p oe) noW (b₀ :: suite) (fh p e))
  (hdb:(y == ("__debug__" : Str))=false:=by decide):VS0 X W (.Try body [.ExceptHandler (some (.Name y np)) (some n) (b₀ :: suite) hpos] [] [] pos) (sTry i sub fb fh):=by
 refine ⟨_,zmL t hx (tb:=fun W=>zif X.K W fb) (fun W=>(hb W).can) (zol t c hg hm hN hi hl (ts:=fun x cls dx D σ H=>∃ e:Exc,(∃ E,PySem.W.nsIn X.K mainGlobals e.cls=some (some (.ref E))∧cls = .ref E)∧zif X.K noW (fh x e) D σ H) (fun x oe=>?_) znh hdb),zla hsub⟩
 intro pins sh σ H D I ⟨e,he,q⟩
 exact (hh x oe e he).can pins sh σ H D I q
section
variable {P:Program} {w:World} {K:PySem.W.Frag} {mg:Str→Option Value} {base:Heap}
theorem DefN.of0 {x:Str} {st:Stmt} {N ps:List Str} {k:Nat} {b:MS} (h:HasFn K mg x st) (S:zat N ps (zab st))
  (bind:∀ (kV doc pm:Value) (an:Option Addr) (cdv ct:Value) (us:List Value),us.length=ps.length→bindArgs (PySem.W.fnOf x x (zav st) (zaj st) (zab st) .none kV doc pm an cdv ct) ⟨us,[]⟩ = pure (ps.zip us))
  (hbody:∀ (f:Addr) (cdv:Value) (A:Around) (outer:List Env) (s:Shared) (H:Hp) (E:XK),Room k (A.deeper (envOfC x (zab st) s.heap.objs.size f cdv)) →
   VSs0 (cxOf CX0 P w K mg base N x (zab st) f cdv A outer s H E).nox noW (zaj st) b):DefN P w K mg base x (k + 1) ps (fnF N.length b):=by
 refine Def.of0 h S bind (fun vs H Q E h=>h.1) fun f cdv A outer s H vs Q E hr hsp=>?_
 obtain ⟨t,p,q⟩:=hbody f cdv A outer s H E hr
 exact ⟨t,p,zfD (E:=fun _ _ _=>False) q hsp⟩
end
end V2
namespace V2
open PySem PySem.Spec PyProof.Rows L2
structure XTab (K:PySem.W.Frag) (rs ns:List Str):Prop where
 xc:∀ n ∈ ns,∀ D,PySem.W.nsIn K mainGlobals n=some (some (.ref D))→XC K D
 sub:∀ n ∈ rs,∀ m ∈ ns,∀ D C,PySem.W.nsIn K mainGlobals n=some (some (.ref D))→PySem.W.nsIn K mainGlobals m=some (some (.ref C))→PySem.W.subIn K (.ref D) (.ref C)=some (n == m || m == ("RankError" : Str))
 ve:∀ n ∈ rs,∀ D,PySem.W.nsIn K mainGlobals n=some (some (.ref D))→PySem.W.subIn K (.ref D) (.type "ValueError")=some true
 rn:∀ n ∈ rs,n ∈ ns
def xtab (rs ns:List Str) (n m:Str):Option Bool:=if n ∈ rs∧m ∈ ns then some (n == m || m == ("RankError" : Str)) else none
def xtt (rs:List Str) (n:Str) (T:String):Option Bool:=if n ∈ rs∧T = "ValueError" then some true else none
theorem XTab.own {K:PySem.W.Frag} {rs ns:List Str} (T:XTab K rs ns) (n m:Str) (b:Bool) (D C:Addr) (h:xtab rs ns n m=some b) (hn:PySem.W.nsIn K mainGlobals n=some (some (.ref D))) (hm:PySem.W.nsIn K mainGlobals m=some (some (.ref C))):PySem.W.kitOne K (.ref D) (.ref C)=some b:=by
 unfold xtab at h
 split at h
 ·rename_i q
  cases h
  exact zlB (T.xc _ (T.rn _ q.1) _ hn) (T.xc _ q.2 _ hm) (T.sub _ q.1 _ q.2 _ _ hn hm)
 ·cases h
theorem XTab.bt {K:PySem.W.Frag} {rs ns:List Str} (T:XTab K rs ns) (n:Str) (Y:String) (b:Bool) (D:Addr) (h:xtt rs n Y=some b) (hn:PySem.W.nsIn K mainGlobals n=some (some (.ref D))):PySem.W.kitOne K (.ref D) (.type Y)=some b:=by
 unfold xtt at h
 split at h
 ·rename_i q
  cases h
  obtain ⟨q,rfl⟩:=q
  exact zjW (T.ve _ q _ hn) zhQ
 ·cases h
def anyN (tb:Str→Option Bool):List Str→Option Bool
 | []=>some false
 | m :: r=>match tb m with
  | some true=>some true
  | some false=>anyN tb r
  | none=>none
def glOf:A→Option Str
 | .gl m=>some m
 | _=>none
def ziC:List A→Option (List Str)
 | []=>some []
 | a :: r=>(glOf a).bind fun m=>(ziC r).map fun ms=>m :: ms
def isA (tb:Str→Option Bool) (tt:String→Option Bool):A→Option Bool
 | .gl m=>tb m
 | .ty T=>tt T
 | .tup as=>(ziC as).bind (anyN tb)
 | _=>none
@[simp] def gIsX (p:Addr) (tb:Str→Option Bool) (tt:String→Option Bool) (as:List A):Mo A:=fun Ω=>match as with
 | [.adr q,a]=>if q=p∧tt "ValueError" = some true then (match isA tb tt a with
  | some b=>some (.ok (.bl b),Ω)
  | none=>none) else none
 | _=>none
section
variable {K:PySem.W.Frag} {rs ns:List Str} {G:Hp} {ι:List Addr}
theorem zjD:∀ {as:List A} {ms:List Str} {xs:List V},ziC as=some ms→DenL K G ι xs as→∃ cs:List Addr,xs=cs.map V.ref∧ms.map (fun m=>PySem.W.nsIn K mainGlobals m)=cs.map fun C=>some (some (.ref C)):=by
 intro as
 induction as with
 | nil =>
  intro ms xs h d
  cases h
  simp only [DenL] at d;subst d
  exact ⟨[],rfl,rfl⟩
 | cons a r ih =>
  intro ms xs h d
  simp only [DenL] at d
  obtain ⟨x,xr,rfl,d1,d2⟩:=d
  unfold ziC at h
  rw [Option.bind_eq_some_iff] at h
  obtain ⟨m,e1,h⟩:=h
  rw [Option.map_eq_some_iff] at h
  obtain ⟨ms',e2,rfl⟩:=h
  obtain ⟨cs,rfl,q⟩:=ih e2 d2
  cases a with
  | gl y =>
   simp only [glOf,Option.some.injEq] at e1;subst e1
   simp only [Den] at d1
   obtain ⟨C,hC,rfl⟩:=d1
   exact ⟨C :: cs,rfl,by rw [List.map_cons,List.map_cons,hC,q]⟩
  | _=>cases e1
theorem zlt (hT:XTab K rs ns) {n:Str} {D:Addr} (hn:PySem.W.nsIn K mainGlobals n=some (some (.ref D))):∀ {ms:List Str} {cs:List Addr} {b:Bool},ms.map (fun m=>PySem.W.nsIn K mainGlobals m)=cs.map (fun C=>some (some (.ref C)))→anyN (xtab rs ns n) ms=some b→PySem.W.kitAny K (.ref D) (cs.map Value.ref)=some b:=by
 intro ms
 induction ms with
 | nil =>
  intro cs b e h
  cases cs with
  | nil=>exact h
  | cons=>cases e
 | cons m r ih =>
  intro cs b e h
  cases cs with
  | nil=>cases e
  | cons C cs =>
   simp only [List.map_cons,List.cons.injEq] at e
   unfold anyN at h
   split at h
   ·rename_i q
    cases h
    simp only [List.map_cons,PySem.W.kitAny,hT.own _ _ _ _ _ q hn e.1]
   ·rename_i q
    simp only [List.map_cons,PySem.W.kitAny,hT.own _ _ _ _ _ q hn e.1]
    exact ih e.2 h
   ·cases h
end
theorem zk9 {X:Cx} {W:WX} {rs ns:List Str} {p:Addr} {oe:Obj} {n:Str} (hp:(p,oe) ∈ X.pn) (hT:XTab X.K rs ns) (he:∃ E,PySem.W.nsIn X.K mainGlobals n=some (some (.ref E))∧oe.cls = .ref E):zez X W (.builtin "isinstance") (gIsX p (xtab rs ns n) (xtt rs n)):=by
 refine ⟨_,zjL hp,?_⟩
 intro G ι Ω H σ xs as Q w d h
 obtain ⟨E,hE,hc⟩:=he
 unfold gIsX at h
 split at h
 ·rename_i q a
  split at h
  ·rename_i hq
   obtain ⟨rfl,hv⟩:=hq
   split at h
   ·rename_i b e
    obtain ⟨x,y,rfl,d1,d2⟩:=den2 d
    simp only [Den] at d1;subst d1
    have hr:n ∈ rs:=by
     unfold xtt at hv
     split at hv
     ·rename_i z;exact z.1
     ·cases hv
    refine ⟨E,hc,hT.xc _ (hT.rn _ hr) _ hE,?_⟩
    have fin:Q (.bl b) H:=h _ H G ι (Ext.refl _ _) w (by simp only [Den])
    rw [hc]
    cases a with
    | gl m =>
     simp only [Den] at d2
     obtain ⟨C,hC,rfl⟩:=d2
     exact .inl ⟨C,b,rfl,hT.own _ _ _ _ _ e hE hC,fin⟩
    | ty T =>
     simp only [Den] at d2;subst d2
     exact .inr (.inl ⟨T,b,rfl,hT.bt _ _ _ _ e hE,fin⟩)
    | tup as =>
     simp only [Den] at d2
     obtain ⟨a,ys,rfl,hG,dl⟩:=d2
     unfold isA at e
     rw [Option.bind_eq_some_iff] at e
     obtain ⟨ms,e1,e2⟩:=e
     obtain ⟨cs,rfl,q⟩:=zjD e1 dl
     exact .inr (.inr ⟨a,cs,b,rfl,w.sub _ _ hG,zlt hT hE q e2,fin⟩)
    | _=>cases e
   ·exact False.elim h
  ·exact False.elim h
 ·exact False.elim h
end V2
namespace V2
open PySem PySem.Spec PyProof.Rows L2
end V2
namespace V2
open PySem PySem.Spec PyProof.Rows L2
def ClsN (K:PySem.W.Frag) (mg:Str→Option Value) (x:Str):Prop:=∃ C,XC K C∧mg x=some (.ref C)∧PySem.W.nsIn K mainGlobals x=some (some (.ref C))
def OwnC (K:PySem.W.Frag) (mg:Str→Option Value) (x:Str):Prop:=∃ C,OwnE K C∧mg x=some (.ref C)∧PySem.W.nsIn K mainGlobals x=some (some (.ref C))
section
variable {X:Cx} {W:WX} {x y:Str} {e:Expr} {es:List Expr} {np cpos pos hpos:Pos} {fs:Ev→Mo (List A)}
@[simp] def cG (x:Str):Ev→Mo A:=fun _=>ret (.gl x)
theorem zea (h:ClsN X.K X.mg x) (hg:Gl X x) (hd:(x == ("__debug__" : Str))=false:=by decide):VE X W (.Name x pos) (cG x):=by
 obtain ⟨C,_,h1,h2⟩:=h
 exact zly hg h1 h2 hd
theorem zjj (T:zde X W) (hc:X.calm=true) (O:OwnC X.K X.mg x) (hg:Gl X x) (ha:VA X W (e :: es) fs)
  (hdb:(x == ("__debug__" : Str))=false:=by decide) (he:starEach (e :: es) X.env=(false,eval e X.env) :: starEach es X.env:=by rfl) (hpl:(backTo cpos (starEach (e :: es) X.env)).any (·.1)=false:=by rfl) :
  VS X W (.Raise (some (.Call (.Name x np) (e :: es) [] cpos)) none pos) (ziW x fs):=by
 obtain ⟨C,h0,h1,h2⟩:=O
 exact zks T hc h0 hg h1 h2 ha hdb he hpl
theorem zlF {i:Nat} {n:Str} {body:List Stmt} {b₀:Stmt} {suite:List Stmt} {rs ns:List Str} {fb:MS} {fh:Addr→Exc→MS} (t:Top1 X) (hx:X.ex=[]) (c:ClsN X.K X.mg y) (hg:Gl X y) (hT:XTab X.K rs ns) (hN:X.N.Nodup) (hi:X.N[i]? = some n) (hl:X.env.scope.names.lookup n=some .local)
  (hb:∀ W,VSs0 (X.wish (XE X W)) W body fb) (hh:∀ (p:Addr) (oe:Obj) (e:Exc),(∃ E,PySem.W.nsIn X.K mainGlobals e.cls=some (some (.ref E))∧oe.cls = .ref E)→VSs (X.zby p oe) noW (b₀ :: suite) (fh p e))
  (hdb:(y == ("__debug__" : Str))=false:=by decide):VS0 X W (.Try body [.ExceptHandler (some (.Name y np)) (some n) (b₀ :: suite) hpos] [] [] pos) (sTry i (fun z=>xtab rs ns z y == some true) fb fh):=by
 obtain ⟨C,h0,h1,h2⟩:=c
 refine znk t hx h0 hg h1 hN hi hl (fun z E q hz=>?_) hb hh hdb
 have q:xtab rs ns z y=some true:=by simpa using q
 unfold xtab at q
 split at q
 ·rename_i hm
  rw [← q]
  exact hT.sub _ hm.1 _ hm.2 _ _ hz h2
 ·cases q
end
theorem zhz {α:Type} {P:α→Prop}:∀ n ∈ ([] : List α),P n:=by simp
theorem zaL {α:Type} {P:α→Prop} {a:α} {l:List α} (h:P a) (t:∀ n ∈ l,P n):∀ n ∈ a :: l,P n:=fun n hn=>by
 rcases List.mem_cons.mp hn with z | z
 ·exact z ▸ h
 ·exact t n z
theorem zdf {K:PySem.W.Frag} {n:Str} {C:Addr} {P:Addr→Prop} (h:PySem.W.nsIn K mainGlobals n=some (some (.ref C))) (p:P C):∀ D,PySem.W.nsIn K mainGlobals n=some (some (.ref D))→P D:=fun D hD=>by
 rw [h] at hD;cases hD;exact p
theorem zdx {K:PySem.W.Frag} {n m:Str} {C C':Addr} {P:Addr→Addr→Prop} (h:PySem.W.nsIn K mainGlobals n=some (some (.ref C))) (h':PySem.W.nsIn K mainGlobals m=some (some (.ref C'))) (p:P C C'):∀ D D',PySem.W.nsIn K mainGlobals n=some (some (.ref D))→PySem.W.nsIn K mainGlobals m=some (some (.ref D'))→P D D':=fun D D' hD hD'=>by
 rw [h] at hD;rw [h'] at hD';cases hD;cases hD';exact p
theorem DefV.ofN {P:Program} {w:World} {K:PySem.W.Frag} {mg:Str→Option Value} {base:Heap} {x:Str} {k:Nat} {ps:List Str} {F:List A→Mo A} (D:DefN P w K mg base x k ps F):DefV P w K mg base x k ps (noX F):=by
 obtain ⟨f,fd,h1,h2,h3,h4⟩:=D.ex
 refine ⟨f,fd,⟨fun vs H Q E h=>h.1,fun A outer s H args us vs Q E hr e0 hb r hsp=>?_⟩,h2,h3,h4⟩
 refine codeAny_mono (h1.run A outer s H args us vs Q (fun _ _ _=>False) hr e0 hb r ?_) fun r s' hq=>?_
 ·obtain ⟨hl,G,ι,Ω,ds,w,d,p⟩:=hsp
  refine ⟨hl,G,ι,Ω,ds,w,d,?_⟩
  revert p
  unfold noX
  generalize F ds Ω=q2
  intro p
  match q2,p with
  | some (.ok a,Ω2),p=>exact p
 ·cases r with
  | error ev=>exact False.elim hq
  | ok v=>cases v <;> exact hq
end V2
namespace L2
open PySem PySem.Spec PyProof.Rows
end L2
namespace V2
theorem zeJ:PySem.bootBuiltins "ValueError" = some (.type "ValueError"):=by decide +kernel
end V2
namespace L2
open PySem PySem.Spec PyProof.Rows
theorem Top1.nox {X:Cx} (t:Top1 X):Top1 X.nox:=⟨t.1,t.2,t.3⟩
theorem zit {CX:CXT} {P:Program} {w:World} {K:PySem.W.Frag} {mg:Str→Option Value} {base:Heap} {N:List Str} {qual:Str} {scope:Scope} {f:Addr} {cd:Value} {A:Around} {outer:List Env} {s:Shared} {H:Hp} {E:XK}:Top1 (cxOf CX P w K mg base N qual scope f cd A outer s H E).nox:=Top1.nox zep
theorem ziB {CX:CXT} {P:Program} {w:World} {K:PySem.W.Frag} {mg:Str→Option Value} {base:Heap} {N:List Str} {qual:Str} {scope:Scope} {f:Addr} {cd:Value} {A:Around} {outer:List Env} {s:Shared} {H:Hp} {E:XK} {W:WX} :
  zde ((cxOf CX P w K mg base N qual scope f cd A outer s H E).nox.wish (XE (cxOf CX P w K mg base N qual scope f cd A outer s H E).nox W)) W:=zde.of zit rfl W
end L2
namespace M
open PySem V2
end M
namespace KS
open PySem PySem.W PyProof.Rows
def go {α:Type} (lt:Nat→Nat→Bool):KasT α→α
 | .ret a=>a
 | .ask i j k=>go lt (k (lt i j))
section
variable (r:Nat→Int)
abbrev ltR:Nat→Nat→Bool:=fun i j=>decide (r i < r j)
def Ky (p:Array Nat) (i:Nat):Int:=r (p.getD i 0)
def Up (p:Array Nat) (k:Nat):Prop:=∀ i j,i ≤ j→j < k→Ky r p i ≤ Ky r p j
variable {r}
theorem zm5 {p q:Array Nat} {i j:Nat} (h:Ky r p i < Ky r q j):ltR r (p.getD i 0) (q.getD j 0)=true:=decide_eq_true h
theorem zn6 {p q:Array Nat} {i j:Nat} (h:¬ Ky r p i < Ky r q j):ltR r (p.getD i 0) (q.getD j 0)=false:=decide_eq_false h
theorem place {p:Array Nat} {k:Nat} (hu:Up r p k):∀ (f l t:Nat),l ≤ t→t ≤ k→t - l ≤ f→(∀ i,i < l→Ky r p i ≤ Ky r p k)→(∀ i,t ≤ i→i < k→Ky r p k < Ky r p i) →
  ∃ m,go (ltR r) (kas_place p k f l t)=m∧m ≤ k∧(∀ i,i < m→Ky r p i ≤ Ky r p k)∧(∀ i,m ≤ i→i < k→Ky r p k < Ky r p i)
 | 0,l,t,h1,h2,h3,h4,h5=>⟨l,rfl,by omega,h4,fun i a b=>h5 i (by omega) b⟩
 | f + 1,l,t,h1,h2,h3,h4,h5=>by
  by_cases c:l ≥ t
  ·exact ⟨l,by simp only [kas_place,c,if_true,go],by omega,h4,fun i a b=>h5 i (by omega) b⟩
  ·by_cases d:Ky r p k < Ky r p ((l + t) / 2)
   ·have d':=zm5 d
    obtain ⟨m,e,a1,a2,a3⟩:=place hu f l ((l + t) / 2) (by omega) (by omega) (by omega) h4 (fun i a b=>by
     have:=hu ((l + t) / 2) i a b
     omega)
    refine ⟨m,?_,a1,a2,a3⟩
    rw [← e]
    simp only [kas_place,c,if_false,go,d',if_true]
   ·have d':=zn6 d
    obtain ⟨m,e,a1,a2,a3⟩:=place hu f ((l + t) / 2 + 1) t (by omega) h2 (by omega) (fun i a=>by
     have:=hu i ((l + t) / 2) (by omega) (by omega)
     omega) h5
    refine ⟨m,?_,a1,a2,a3⟩
    rw [← e]
    simp only [kas_place,c,if_false,go,d',Bool.false_eq_true]
end
end KS
namespace KS
open PySem PySem.W PyProof.Rows
def reach {α:Type} (lt:Nat→Nat→Bool) (N:Nat):KasT α→Prop
 | .ret _=>True
 | .ask i j k=>i < N∧j < N∧reach lt N (k (lt i j))
def Bd (N:Nat) (p:Array Nat):Prop:=0 < N∧∀ x ∈ p,x < N
section
variable {lt:Nat→Nat→Bool} {N:Nat}
theorem Bd.get {p:Array Nat} (h:Bd N p) (i:Nat):p.getD i 0 < N:=by
 rw [Array.getD_eq_getD_getElem?]
 cases e:p[i]? with
 | none=>exact h.1
 | some x=>exact h.2 x (Array.mem_of_getElem? e)
end
end KS
namespace KS
open PySem PySem.W PyProof.Rows
def lexB:List Int→List Int→Bool
 | [],[]=>false
 | [],_ :: _=>true
 | _ :: _,[]=>false
 | a :: as,b :: bs=>if a=b then lexB as bs else decide (a < b)
section
variable {prog:Program} {w:World} {A:Around} {E:Value→Shared→Prop} {s:Shared}
end
end KS
namespace KS
open PySem PySem.W PyProof.Rows
def TupAt (h:Heap) (v:Value) (ns:List Int):Prop:=∃ a o xs n,v = .ref a∧h.get? a=some o∧o.cls = .type "tuple"∧o.data = .seq xs n∧IntsAre xs.toList ns
def zcX (h:Heap):List Value→List (List Int)→Prop
 | [],[]=>True
 | v :: vs,t :: ts=>TupAt h v t∧zcX h vs ts
 | _,_=>False
theorem zcX.len {h:Heap}:∀ {vs:List Value} {ts:List (List Int)},zcX h vs ts→vs.length=ts.length
 | [],[],_=>rfl
 | _ :: _,_ :: _,t=>by simp [zcX.len t.2]
 | [],_ :: _,t=>t.elim
 | _ :: _,[],t=>t.elim
theorem zcX.get {h:Heap}:∀ {vs:List Value} {ts:List (List Int)},zcX h vs ts→∀ i,i < ts.length→TupAt h (vs.getD i .none) (ts.getD i [])
 | [],[],_,i,hi=>by simp at hi
 | _ :: _,_ :: _,t,0,_=>t.1
 | _ :: _,_ :: _,t,i + 1,hi=>by simpa using zcX.get t.2 i (by simpa using hi)
 | [],_ :: _,t,_,_=>t.elim
 | _ :: _,[],t,_,_=>t.elim
theorem zcX.keeps {h h':Heap} (k:∀ b o,h.get? b=some o→o.cls = .type "tuple"→h'.get? b=some o):∀ {vs:List Value} {ts:List (List Int)},zcX h vs ts→zcX h' vs ts
 | [],[],_=>trivial
 | _ :: _,_ :: _,⟨⟨a,o,xs,n,h1,h2,h3,h4⟩,t⟩=>⟨⟨a,o,xs,n,h1,k _ _ h2 h3,h3,h4⟩,zcX.keeps k t⟩
 | [],_ :: _,t=>t.elim
 | _ :: _,[],t=>t.elim
section
variable {prog:Program} {w:World} {A:Around} {E:Value→Shared→Prop} {s:Shared}
end
end KS
namespace V2
open PySem PySem.Spec PyProof.Rows L2 KS
def TupV (H:Hp):List V→List (List Int)→Prop
 | [],[]=>True
 | y :: ys,t :: ts=>(∃ b,y = .ref b∧H b=some (.tup (t.map V.int)))∧TupV H ys ts
 | _,_=>False
section
variable {X:Cx} {W:WX}
theorem TupV.len {H:Hp}:∀ {ys:List V} {ts:List (List Int)},TupV H ys ts→ys.length=ts.length
 | [],[],_=>rfl
 | _ :: _,_ :: _,t=>by simp [TupV.len t.2]
 | [],_ :: _,t=>t.elim
 | _ :: _,[],t=>t.elim
end
end V2
namespace V2
open PySem PySem.Spec PyProof.Rows L2
section
variable {X:Cx} {W:WX}
end
end V2
namespace M
open PySem V2
end M
namespace V2
open PySem PySem.Spec PyProof PyProof.Rows L2
section
variable {X:Cx} {W:WX} {e a b:Expr} {es:List Expr} {pos:Pos} {fa fb:Ev→Mo A} {te:TE} {tl th tk:TO} {lo hi stp:Option Expr}
end
end V2
namespace L2
open PySem PySem.Spec PyProof.Rows
section
variable {X:Cx}
end
end L2
namespace V2
open PySem PySem.Spec PyProof.Rows L2
end V2
namespace L2
open PySem PySem.Spec PyProof.Rows
def BltB (h:Heap) (mg:Str→Option Value):Prop:=∃ bm o,mg "__builtins__" = some (.ref bm)∧bm ≠ builtinsNs∧h.get? bm=some o∧o.cls = .type "module"∧o.dict=some builtinsNs∧o.data = .plain
end L2
namespace L2
open PySem PySem.Spec PyProof.Rows
structure zoW (h:Heap) (H:Hp) (f:Addr) (qual:Str) (params:Arguments) (body:Expr) (scope:Scope) (caps:List (Str × Int)):Prop where
 ex:∃ (cl:List (Str × Addr)) (pm ctv:Value) (c':Addr) (oc:Obj) (vs:Array Value) (t:Tok),
  H f=some (.frz (PySem.W.kla_obj "<lambda>" qual params body scope cl pm c' ctv) (.own 0))∧H c'=some (.frz oc (.own 0))∧oc.data = .fields vs∧vs[1]? = some (.str qual t) ∧
  (∀ x y c,cl.lookup x=some c→cl.lookup y=some c→x=y)∧(∀ y ∈ scope.names,y.2 = .free→∃ c,cl.lookup y.1=some c) ∧
  (∀ x c,cl.lookup x=some c→(∃ v,h.IsCell c v)∧H c=none)∧∀ p ∈ caps,∃ c t,cl.lookup p.1=some c∧h.IsCell c (some (.int p.2 t))
structure zj6 (scope:Scope) (y:Str) (cs:List Str):Prop where
 kind:scope.kind = .function
 co:scope.isCoroutine=false
 gen:scope.isGenerator=false
 nocell:∀ x ∈ scope.names,x.2 ≠ .cell
 par:scope.names.lookup y=some .local
 cap:∀ x ∈ cs,scope.names.lookup x=some .free
section
variable {P:Program} {w:World} {K:PySem.W.Frag} {mg:Str→Option Value} {base:Heap} {A:Around} {outer:List Env} {s:Shared} {H:Hp}
end
end L2
namespace V2
open PySem PySem.Spec PyProof.Rows L2
section
variable {X:Cx} {W:WX} {e:Expr} {fa:Ev→Mo A} {p pos:Pos}
end
end V2
namespace L2
open PySem PySem.Spec PyProof.Rows
section
variable {X:Cx}
end
end L2
namespace L2
open PySem PySem.Spec PyProof.Rows
end L2
namespace V2
open PySem PySem.Spec PyProof.Rows L2
structure TabF (K:PySem.W.Frag) (mg:Str→Option Value) (base:Heap) (x:Str):Prop where
 kin:K.In base
 glob:base.Ns mainGlobals mg
 blt:BltB base mg
 hd:∃ c P,PySem.W.tabIn K x=some (c,P)∧PySem.W.codeHdIn K c P=true
section
variable {P:Program} {w:World} {K:PySem.W.Frag} {mg:Str→Option Value} {base:Heap}
end
end V2
namespace V2
open PySem PySem.Spec PyProof.Rows L2
section
variable {X:Cx} {W:WX} {e:Expr} {fa:Ev→Mo A} {p pos:Pos}
end
end V2
namespace V2
open PySem PySem.Spec PyProof.Rows L2
structure FwOk (X:Cx) (scope:Scope) (y:Str) (cs:List Str) (js:List Nat):Prop where
 S:zj6 scope y cs
 free:∀ y ∈ scope.names,y.2 = .free→X.env.kindOf y.1=some .cell∨X.env.kindOf y.1=some .free
 caps:js.map (fun j=>X.N[j]?)=cs.map some
 cell:∀ x ∈ cs,X.env.scope.names.lookup x=some .cell
def zls (sc:Scope) (N:List Str) (scope:Scope) (y:Str) (cs:List Str) (js:List Nat):Prop :=
 ((scope.kind == .function)=true∧scope.isCoroutine=false∧scope.isGenerator=false)∧(∀ x ∈ scope.names,(x.2 == .cell)=false)∧(scope.names.lookup y == some .local)=true∧(∀ x ∈ cs,(scope.names.lookup x == some .free)=true) ∧
 (∀ y ∈ scope.names,(y.2 == .free)=true→(sc.names.lookup y.1 == some .cell)=true)∧js.map (fun j=>N[j]?)=cs.map some∧∀ x ∈ cs,(sc.names.lookup x == some .cell)=true
instance (sc:Scope) (N:List Str) (scope:Scope) (y:Str) (cs:List Str) (js:List Nat):Decidable (zls sc N scope y cs js):=by unfold zls;infer_instance
theorem FwOk.of {X:Cx} {scope:Scope} {y:Str} {cs:List Str} {js:List Nat} (sc:Scope) (N:List Str) (h1:X.env.scope=sc) (h2:X.N=N) (h:zls sc N scope y cs js):FwOk X scope y cs js:=by
 obtain ⟨⟨a1,a2,a3⟩,a4,a5,a6,a7,a8,a9⟩:=h
 refine ⟨⟨by simpa using a1,a2,a3,fun x hx=>by simpa using a4 x hx,by simpa using a5,fun x hx=>by simpa using a6 x hx⟩,fun y hy hf => .inl ?_,by rw [h2];exact a8,fun x hx=>by rw [h1];simpa using a9 x hx⟩
 have:=a7 y hy (by simp [hf])
 show X.env.scope.names.lookup y.1=some .cell
 rw [h1];simpa using this
@[elab_as_elim] theorem us0 {P:List Value→Prop} (us:List Value) (h:us.length=0) (f:P []):P us:=by cases us with | nil=>exact f | cons _ _=>simp at h
@[elab_as_elim] theorem us1 {P:List Value→Prop} (us:List Value) (h:us.length=1) (f:∀ a,P [a]):P us:=by
 cases us with
 | nil=>simp at h
 | cons a r=>exact us0 r (by simpa using h) (f a)
@[elab_as_elim] theorem us2 {P:List Value→Prop} (us:List Value) (h:us.length=2) (f:∀ a b,P [a,b]):P us:=by
 cases us with
 | nil=>simp at h
 | cons a r=>exact us1 (P:=fun r=>P (a :: r)) r (by simpa using h) (f a)
@[elab_as_elim] theorem us3 {P:List Value→Prop} (us:List Value) (h:us.length=3) (f:∀ a b c,P [a,b,c]):P us:=by
 cases us with
 | nil=>simp at h
 | cons a r=>exact us2 (P:=fun r=>P (a :: r)) r (by simpa using h) (f a)
@[elab_as_elim] theorem us4 {P:List Value→Prop} (us:List Value) (h:us.length=4) (f:∀ a b c d,P [a,b,c,d]):P us:=by
 cases us with
 | nil=>simp at h
 | cons a r=>exact us3 (P:=fun r=>P (a :: r)) r (by simpa using h) (f a)
section
variable {P:Program} {w:World} {K:PySem.W.Frag} {mg:Str→Option Value} {base:Heap}
end
end V2
namespace M
open PySem V2
end M
namespace V2
open PySem PySem.Spec PyProof.Rows L2
section
variable {X:Cx} {W:WX}
end
end V2
namespace M
open PySem V2
end M
namespace L2
open PySem PySem.Spec PyProof.Rows
section
variable {prog:Program} {w:World} {A:Around} {E:Value→Shared→Prop} {h:Heap} {g:Array GenState} {d:Drawn} {t:Nat} {os:OsState}
variable {nm q:Str} {C N:Addr} {bs bm bmB:List Value} {hdct:Bool} {sn:List Str} {sub:List Value} {ab:Bool} {col:Option Bool} {dd:Option Addr} {k0 k1 k2 k3 k5:Option Value} {B newId initId:String}
end
end L2
namespace L2
open PySem PySem.Spec PyProof.Rows
section
variable {prog:Program} {w:World} {A:Around} {E:Value→Shared→Prop} {h:Heap} {g:Array GenState} {d:Drawn} {t:Nat} {os:OsState}
variable {nm q:Str} {C N:Addr} {bs bm bmB:List Value} {hdct:Bool} {sn:List Str} {sub:List Value} {ab:Bool} {col:Option Bool} {dd:Option Addr} {k0 k1 k2 k3 k5:Option Value} {B newId initId:String}
end
end L2
namespace L2
open PySem PySem.Spec PyProof.Rows Builtin Builtin.ObjectAttr
section
variable {prog:Program} {w:World} {A:Around} {E:Value→Shared→Prop} {h:Heap} {g:Array GenState} {d:Drawn} {t:Nat} {os:OsState} {K:PySem.W.Frag}
variable {nm q:Str} {C N:Addr} {bs bm:List Value} {sn:List Str} {sub:List Value} {ab:Bool} {col:Option Bool} {dd:Option Addr} {k0 k1 k2 k3 k5:Option Value} {newId:String}
end
end L2
namespace L2
open PySem PySem.Spec PyProof.Rows
section
variable {X:Cx}
def zoG (j:Nat):TE:=fun σ H Q=>∃ i,σ[j]? = some (some (.int i))∧i.natAbs.log2 < 1920∧∀ x,Q (.str x) H
end
end L2
namespace L2
open PySem PySem.Spec PyProof.Rows
theorem zh5 {K:PySem.W.Frag} {h:Heap} {N:Addr} {mg:Str→Option Value} {n:Str} {v:Value} (X:K.In h) (G:h.Ns N mg) (e:PySem.W.nsIn K N n=some (some v)):mg n=some v:=by
 obtain ⟨o,es,ep,ho,hd,_,hf⟩:=G
 unfold PySem.W.nsIn at e
 split at e
 ·rename_i c d es' n' sl q
  have:=X _ _ q
  rw [ho] at this
  cases this
  cases hd
  split at e
  ·rename_i en he
   cases e
   rw [← hf]
   unfold nsFind findBy
   rw [← Array.find?_toList,he]
   rfl
  ·split at e <;> cases e
 ·cases e
def zkF (K:PySem.W.Frag) (C fI:Addr):Bool:=match K.lookup C with
 | some ⟨.type "type",_, .cls cd,sl⟩=>(match cd.mro,sl.toList with
  | .ref C' :: bm,[_,_,_,_,some (.builtin n),_]=>C' == C && n == "ValueError.__new__" && !cd.hasDel && cd.hasDict && PySem.W.tailIn K bmVE bm && PySem.W.nsOkIn K cd.ns && PySem.W.nsIn K cd.ns "__init__" == some (some (.ref fI))
  | _,_=>false)
 | _=>false
structure OwnI (K:PySem.W.Frag) (C fI:Addr) (fld:Str):Prop where
 inK:zkF K C fI=true
 fn:PySem.W.typeIn K (.ref fI)=some (.type "function")
 setA:PySem.W.findIn K (.ref C) "__setattr__" = some (some (.builtin "object.__setattr__"))
 nof:PySem.W.findIn K (.ref C) fld=some none
theorem OwnI.obj {K:PySem.W.Frag} {C fI:Addr} {fld:Str} (O:OwnI K C fI fld) {h:Heap} (X:K.In h):∃ bm N nm q bs sn sub ab col dd k0 k1 k2 k3 k5 mN oI,h.get? C=some (excClassObj nm q C N bs bm true sn sub ab col dd k0 k1 k2 k3 k5 "ValueError.__new__")∧h.Ns N mN∧mN "__init__" = some (.ref fI)∧OwnTail h bmVE bm∧h.get? fI=some oI∧oI.cls = .type "function":=by
 have q:=O.inK
 obtain ⟨oI,ho',hc'⟩:=Option.map_eq_some_iff.mp O.fn
 unfold zkF at q
 split at q
 ·rename_i dd cd sl ho
  split at q
  ·rename_i C' bm k0 k1 k2 k3 n k5 hm hs
   simp only [Bool.and_eq_true,beq_iff_eq,Bool.not_eq_true'] at q
   obtain ⟨⟨⟨⟨⟨⟨rfl,rfl⟩,hdel⟩,hdi⟩,ht⟩,hok⟩,hni⟩:=q
   obtain ⟨nm,bs,mro,ns,qn,hd,sn,sub,ab,col,del⟩:=cd
   dsimp only at hm hdel hok hni hdi
   subst hm hdel hdi
   have hsl:sl = #[k0,k1,k2,k3,some (.builtin "ValueError.__new__"),k5]:=by
    obtain ⟨l⟩:=sl
    simp only at hs
    rw [hs]
   subst hsl
   exact ⟨bm,ns,nm,qn,bs,sn,sub,ab,col,dd,k0,k1,k2,k3,k5,_,oI,X _ _ ho, .of_isNs (PySem.W.isNs_of_in X hok),zh5 X (.of_isNs (PySem.W.isNs_of_in X hok)) hni,PySem.W.tail_of_in X ht,X _ _ ho',hc'⟩
  ·cases q
 ·cases q
structure zoU (K:PySem.W.Frag) (R:Addr):Prop where
 reads:PySem.W.readsIn K R (.type "type")=true
 find:PySem.W.findCls K (.ref R) (.type "type") "__init__" = some (.val (.builtin "ValueError.__init__"))
 ga:PySem.W.specialIn K (.ref R) "__getattribute__" = some (some (.builtin "type.__getattribute__"))
end L2
namespace L2
open PySem PySem.Spec PyProof.Rows
section
variable {X:Cx} {pins:List (Addr × Obj)} {σ:St} {H:Hp} {s1:Shared} {C fI R e:Addr} {fld qual rk sf pa:Str} {st:Stmt} {fd:FuncData} {t:Tok} {i:Int} {h2:Heap} {k:Nat} {je:Expr} {np ap cp ep p1 p2 ap2 p3 apos:Pos}
end
end L2
namespace L2
open PySem PySem.Spec PyProof.Rows
section
variable {X:Cx} {pins:List (Addr × Obj)} {σ:St} {H:Hp} {s1:Shared} {C fI R e:Addr} {fld qual rk sf pa:Str} {st:Stmt} {fd:FuncData} {t:Tok} {i:Int} {h2:Heap} {k:Nat} {je:Expr} {np ap cp ep p1 p2 ap2 p3 apos:Pos}
structure zoZ (st:Stmt) (fld rk sf pa:Str):Prop where
 scope:zat [sf,pa] [sf,pa] (zab st)
 glob:(zab st).names.lookup rk=some .globalImplicit
 loc0:(zab st).names.lookup sf=some .local
 loc1:(zab st).names.lookup pa=some .local
 dbg:(rk == ("__debug__" : Str))=false∧(sf == ("__debug__" : Str))=false∧(pa == ("__debug__" : Str))=false∧(sf == ("__classdict__" : Str))=false∧(pa == ("__classdict__" : Str))=false
 text:∃ (je:Expr) (np ap cp ep p1 p2 ap2 p3 apos:Pos),zaj st=[.Expr (.Call (.Attribute (.Name rk np) "__init__" ap) [.Name sf p1,je] [] cp) ep, .Assign [.Attribute (.Name sf p2) fld ap2] (.Name pa p3) apos] ∧
  (∀ env,starEach [.Name sf p1,je] env=(false,eval (.Name sf p1) env) :: starEach [je] env)∧(∀ env,starEach [je] env=(false,eval je env) :: starEach [] env) ∧
  (∀ env:Env,∃ pl,eval (.Call (.Attribute (.Name rk np) "__init__" ap) [.Name sf p1,je] [] cp) env=(do
   let ov ← eval (.Name rk np) env
   standAt ap.atName
   let (f,first) ← holding [ov] (getMethod ov "__init__" pl)
   callWith cp f first (backTo cp (starEach [.Name sf p1,je] env)) [])) ∧
  (∀ env,swapsWith (.Call (.Attribute (.Name rk np) "__init__" ap) [.Name sf p1,je] [] cp) none ep.line env=pure false) ∧
  (∀ env,swapsWith (.Name pa p3) (some (.Attribute (.Name sf p2) fld ap2)) apos.line env=pure false) ∧
  (∀ Y:Cx,Y.N=[sf,pa]→Y.env.scope=zab st→PE Y je (zoG 1))
end
end L2
namespace L2
open PySem PySem.Spec PyProof.Rows
section
variable {M:Model} {A:Around} {E:Value→Shared→Prop} {env:Env}
variable {nm q:Str} {C N:Addr} {bs bm:List Value} {hdct:Bool} {sn:List Str} {sub:List Value} {ab:Bool} {col:Option Bool} {dd:Option Addr} {k0 k1 k2 k3 k5:Option Value} {newId:String}
end
section
variable {prog:Program} {w:World} {A:Around} {E:Value→Shared→Prop} {s:Shared} {env:Env}
variable {nm q:Str} {C N:Addr} {bs bm bmB:List Value} {hdct:Bool} {sn:List Str} {sub:List Value} {ab:Bool} {col:Option Bool} {dd:Option Addr} {k0 k1 k2 k3 k5:Option Value} {B newId initId:String}
end
section
variable {X:Cx} {W:WX} {x:Str} {pos np cpos:Pos} {e:Expr} {t:TA}
end
end L2
namespace L2
open PySem PySem.Spec PyProof.Rows Builtin Builtin.ObjectAttr
structure XAt (K:PySem.W.Frag) (D:Addr) (fld:Str):Prop where
 ga:PySem.W.findIn K (.ref D) "__getattribute__" = some (some (.builtin "BaseException.__getattribute__"))
 gx:PySem.W.findIn K (.ref D) "__getattr__" = some none
 no:PySem.W.findIn K (.ref D) fld=some none
 be:PySem.W.subIn K (.ref D) (.type "BaseException")=some true
 hd:(PySem.W.clsIn K D).any (·.hasDict)=true
section
variable {prog:Program} {w:World} {A:Around} {E:Value→Shared→Prop} {h:Heap} {g:Array GenState} {d:Drawn} {t:Nat} {os:OsState} {K:PySem.W.Frag} {a D dx:Addr} {o:Obj} {fld:Str} {mA:Str→Option Value} {v:Value} {vs:Array Value}
end
section
variable {X:Cx} {x D dx:Addr} {oe:Obj} {fld:Str} {i:Nat} {n:Str} {np pos:Pos}
end
section
variable {X:Cx} {C:Addr} {i:Nat} {n y:Str} {np pos:Pos} {b₀:Stmt} {suite:List Stmt} {rest:List ExceptHandler} {ts th:TH}
end
end L2
namespace V2
open PySem PySem.Spec PyProof.Rows L2
section
variable {K:PySem.W.Frag} {G H:Hp} {ι:List Addr} {Ω:Sto} {d:Addr}
end
section
variable {X:Cx} {W:WX} {x fld:Str} {e:Expr} {np cpos pos:Pos} {fs:Ev→Mo (List A)}
end
def zox (e:Exc) (d:Addr) (dx:Option Addr):Prop:=(e.fs=[]∧dx=none)∨(e.fs ≠ []∧dx=some d)
structure Cau (K:PySem.W.Frag) (oe:Obj) (d:Addr) (e:Exc):Prop where
 dat:∃ vs,oe.data = .fields vs
 cls:∃ E,PySem.W.nsIn K mainGlobals e.cls=some (some (.ref E))∧oe.cls = .ref E
 dic:zox e d oe.dict
end V2
namespace M
open PySem V2
end M
namespace V2
open PySem PySem.Spec PyProof.Rows L2
def Itv (K:PySem.W.Frag) (a:Addr) (n:Nat):It :=
 ⟨fun i H=>∃ xs x,SqL K H a xs∧xs.length=n∧i < n∧xs[n - 1 - i]? = some x,fun i H x H'=>H'=H∧∀ xs,SqL K H a xs→xs[n - 1 - i]? = some x,fun i _=>n ≤ i⟩
theorem zjJ {P:Program} {w:World} {K:PySem.W.Frag} {tg:Expr} (a it:Addr) (n:Nat):Turn P w K tg (Itv K a n) [it] it (fun i h=>i ≤ n∧h.IsRevIter it a ((n:Int) - 1 - (i:Int))) where
 mem:=by simp
 obj:=fun i h st b hb=>by
  have e:b=it:=by simpa using hb
  subst e
  obtain ⟨_,o,e,c,d⟩:=st
  exact ⟨o,e,fun v z=>by rw [d] at z;cases z⟩
 keep:=fun i h h' st k=>⟨st.1,st.2.at fun o e=>k it (by simp) o e⟩
 item:=by
  intro X hP hw hK hc i pins s σ H E I hf st hg
  subst hP hw hK
  obtain ⟨xs,x,hq,hn,hi,hx⟩:=hg
  obtain ⟨its,rv,p,hz⟩:=I.list hq
  obtain ⟨u,hu,ru⟩:=rv.get hx
  obtain ⟨f0,f1,f2,f3,f4,f5⟩:=hf it (by simp)
  have e1:(n:Int) - 1 - (i:Int)=((n - 1 - i:Nat):Int):=by omega
  have st1:=st.2
  rw [e1] at st1
  refine wpAny_pyNext_rev_item st1 p.isList (x:=u) (by simpa using hu) fun h' st' sb=>?_
  have I1:Inv X pins σ H { s with heap:=h' }:=I.turned (t':=s.toks) (fun b o hb e=>(sb.2 b hb).trans e) f0 f1 f3 f4 f5
  have e2:((n - 1 - i:Nat):Int) - 1=(n:Int) - 1 - ((i + 1:Nat):Int):=by omega
  rw [e2] at st'
  obtain ⟨o,e,c,d⟩:=id st'
  exact ⟨u,rfl,zjN (s:={ s with heap:=h' }) e c d (by decide) ⟨x,H,I1,ru,⟨rfl,fun ys hy=>by rw [I.zhp hy hq];exact hx⟩,⟨hi,st'⟩,fun b hb=>(hf b hb).1⟩⟩
 done:=by
  intro X hP hw hK hc i pins s σ H E I hf st hg
  subst hP hw hK
  have hi:n ≤ i:=hg
  obtain ⟨f0,f1,f2,f3,f4,f5⟩:=hf it (by simp)
  have e1:(n:Int) - 1 - (i:Int) = -1:=by have:=st.1;omega
  have st1:=st.2
  rw [e1] at st1
  exact wpAny_pyNext_rev_end (I.ok.hd hc) st1 fun h' eb=>⟨rfl,I.turned (t':=s.toks) (fun b o hb e=>eb b o hb e) f0 f1 f3 f4 f5⟩
 self:=fun _ _ _ _ _ st h=>wpAny_pyIter_revIter st.2 h
section
variable {X:Cx} {W:WX} {pos:Pos}
theorem zno {tg:Expr} {p:Pos} {l:Expr} {tl:TE} (hg:Gl X "reversed") (hm:X.mg "reversed" = none) (hl:PE X l tl) (hs:starEach [l] X.env=[(false,eval l X.env)]:=by rfl) :
  PI X tg (.Call (.Name "reversed" p) [l] [] pos) (fun σ H R=>tl σ H fun x H1=>∃ a xs,x = .ref a∧SqL X.K H1 a xs∧R (Itv X.K a xs.length) H1):=by
 intro pins s σ H R I h
 refine wpAny_Call_Name_kw (zhj I hg hm boot_reversed ?_)
 refine PyProof.Rows.callWith_type1 (thn (zhf hl zhB hs pos pins s σ H (fun vs H1=>match vs with
  | [x]=>∃ a xs,x=V.ref a∧SqL X.K H1 a xs∧R (Itv X.K a xs.length) H1
  | _=>False) I h) fun us s1 ⟨vs,H1,I1,r1,q1⟩=>?_) hs rfl
 match vs,q1 with
 | [x],q1 =>
 obtain ⟨a,xs,e1,hq,q⟩:=q1
 obtain ⟨u,rfl,ru⟩:=vals1 r1
 subst e1
 cases ru
 obtain ⟨its,rv,pl,hz⟩:=I1.list hq
 have hlen:=rv.length
 refine call_reversed_list pl.isList ?_
 have I2:Inv X pins σ H1 { s1 with heap:=s1.heap.push (revObj a ((its.toArray.size:Int) - 1)) }:=I1.kept (t':=s1.toks) fun b o e=>Heap.get?_push_of_some _ e
 have st:(s1.heap.push (revObj a ((its.toArray.size:Int) - 1))).IsRevIter s1.heap.objs.size a ((xs.length:Int) - 1 - ((0:Nat):Int)):=by
  have e:((its.toArray.size:Int) - 1)=(xs.length:Int) - 1 - ((0:Nat):Int):=by rw [List.size_toArray,← hlen];simp
  rw [← e]
  exact ⟨_,Heap.get?_push_size _ rfl,rfl,rfl⟩
 refine wpAny_pyIter_revIter (s:={ s1 with heap:=s1.heap.push (revObj a ((its.toArray.size:Int) - 1)) }) st ?_
 refine ⟨s1.heap.objs.size,[s1.heap.objs.size],_,_,H1,rfl,I2,zjJ a _ xs.length,⟨Nat.zero_le _,st⟩,fun b hb=>?_,q⟩
 have e:b=s1.heap.objs.size:=by simpa using hb
 subst e
 exact I1.fpOk (Nat.le_refl _) (I1.hok.fresh (Nat.le_refl _))
def zd8 (a:A) (ds:List A):Src:=⟨ds.reverse,fun Ω=>zar Ω a=some ds⟩
@[simp] def zfa (f:Ev→Mo A):Ev→Mo Src:=fun ρ=>mb (f ρ) fun a Ω=>match zar Ω a with
 | some ds=>some (.ok (zd8 a ds),Ω)
 | none=>none
theorem zl3 {K:PySem.W.Frag} {G:Hp} {ι:List Addr} {p:Addr} {a:A} {ds:List A} (d:Den K G ι (.ref p) a):ItV K G ι (Itv K p ds.length) (zd8 a ds):=by
 have key:∀ G' ι' Ω' H',Ext G ι G' ι'→Wd K G' ι' Ω' H'→zar Ω' a=some ds→∃ xs,SqL K H' p xs∧DenL K G' ι' xs ds:=fun G' ι' Ω' H' e w h=>by
  obtain ⟨q,xs,h1,h2,h3⟩:=zbR w (d.ext e) h
  cases h1
  exact ⟨xs,h2,h3⟩
 refine ⟨fun G' ι' Ω' H' e w h i hi=>?_,fun G' ι' Ω' H' e w h i hi=>?_,fun G' ι' Ω' H' e w h i x H2 y hy hd=>?_⟩
 ·obtain ⟨xs,h2,h3⟩:=key G' ι' Ω' H' e w h
  have hi':i < ds.length:=by simpa [zd8] using hi
  have hl:ds.length - 1 - i < xs.length:=by rw [h3.length];omega
  exact ⟨xs,xs[ds.length - 1 - i],h2,h3.length,hi',List.getElem?_eq_getElem hl⟩
 ·show ds.length ≤ i
  simpa [zd8] using hi
 ·obtain ⟨xs,h2,h3⟩:=key G' ι' Ω' H' e w h
  obtain ⟨e1,e2⟩:=hd
  subst e1
  have hy':ds.reverse[i]? = some y:=hy
  have hi':i < ds.length:=by have:=(List.getElem?_eq_some_iff.mp hy').1;simpa using this
  rw [List.getElem?_reverse hi'] at hy'
  obtain ⟨z,q1,q2⟩:=h3.get hy'
  rw [e2 xs h2] at q1
  cases q1
  exact ⟨G',Ext.refl _ _,w,q2⟩
theorem zhr {tg l:Expr} {p:Pos} {fe:Ev→Mo A} (hg:Gl X "reversed") (hm:X.mg "reversed" = none) (h:VE X W l fe) (hs:starEach [l] X.env=[(false,eval l X.env)]:=by rfl):VI X W tg (.Call (.Name "reversed" p) [l] [] pos) (zfa fe):=by
 obtain ⟨t,p,s⟩:=h
 refine ⟨_,zno hg hm p hs,fun G ι Ω H σ ρ R w r h=>?_⟩
 refine s G ι Ω H σ ρ _ w r (Post.mb h fun a Ω1 v H1 G1 ι1 x1 w1 d1 h1=>?_)
 cases e:zar Ω1 a with
 | none=>simp only [e] at h1;exact False.elim h1
 | some ds =>
  simp only [e] at h1
  obtain ⟨q,xs,h2,h3,h4⟩:=zbR w1 d1 e
  subst h2
  refine ⟨q,xs,rfl,h3,?_⟩
  rw [h4.length]
  exact h1 _ H1 G1 ι1 (Ext.refl _ _) w1 (zl3 d1)
end
end V2
namespace V2
open PySem PySem.Spec PyProof.Rows L2
section
variable {X:Cx} {W:WX} {a b c d:Expr} {ta tb tc td:TE} {fa fb fc fd:Ev→Mo A} {pos:Pos}
def znR (_ j:Int):Prop:=0 < j∧j < 1152921504606846976
instance (i j:Int):Decidable (znR i j):=by unfold znR;infer_instance
end
end V2
namespace M
open PySem V2
end M
namespace PySem
section
variable {prog:Program} {w:World} {A:Around} {E:Value→Shared→Prop} {s:Shared}
end
set_option maxRecDepth 100000
section
variable {prog:Program} {w:World} {A:Around} {E:Value→Shared→Prop} {s:Shared}
end
end PySem
namespace V2
open PySem PySem.Spec PyProof.Rows L2
section
variable {X:Cx} {W:WX}
end
section
variable {K:PySem.W.Frag}
end
section
variable {X:Cx} {W:WX}
end
end V2
namespace V2
open PySem PySem.Spec PyProof.Rows L2
section
variable {X:Cx} {W:WX}
end
end V2
namespace V2
open PySem PySem.Spec PyProof.Rows L2
section
variable {X:Cx} {W:WX} {pos:Pos}
end
end V2
namespace M
open PySem V2
end M
namespace M
open PySem V2
end M
namespace L2
open PySem PySem.Spec PyProof.Rows
def zoB (p:Addr) (oe:Obj) (outer:List Env) (s:Shared) (H:Hp):Prop:=s.heap.get? p=some oe∧H p=none∧p ∉ frs outer∧∀ v,oe.data ≠ .cell v
def RunP (P:Program) (w:World) (K:PySem.W.Frag) (mg:Str→Option Value) (base:Heap) (k:Nat) (f:Addr) (fd:FuncData) (ps:List Str) (p:Addr) (oe:Obj) (sp:Sp):Prop :=
 ∀ (A:Around) (outer:List Env) (s:Shared) (H:Hp) (args:Args) (us:List Value) (vs:List V) (Q:VK) (E:XK),Room k A→Env0 P w K mg base A outer s H→BindsTo s fd args (ps.zip us)→Vals vs us→zoB p oe outer s H→sp vs H Q E →
  codeAny (model P w) (A.mark (some (.ref p))) (.call (.ref f) args) (CR CX0 outer P w H s Q E) s
section
variable {P:Program} {w:World} {K:PySem.W.Frag} {mg:Str→Option Value} {base:Heap} {p:Addr} {oe:Obj}
set_option maxRecDepth 100000 in
theorem zmA {k:Nat} {f:Addr} {name qual:Str} {params:Arguments} {body:List Stmt} {scope:Scope} {dV kV doc pm cdv ct oc:Value} {an od:Option Addr}
  {osl:Array (Option Value)} {N ps:List Str} {sp:Sp} (lk:K.lookup f=some ⟨oc,od, .func (PySem.W.fnOf name qual params body scope dV kV doc pm an cdv ct),osl⟩) (hcd:PySem.W.codeIn K cdv qual=true) (S:zat N ps scope)
  (len:∀ vs H Q E,sp vs H Q E→vs.length=ps.length)
  (hbody:∀ (A:Around) (outer:List Env) (s:Shared) (H:Hp) (vs:List V) (Q:VK) (E:XK),Room k (A.deeper (envOfC qual scope s.heap.objs.size f cdv))→sp vs H Q E →
   ∃ t,PSs ((cxOf CX0 P w K mg base N qual scope f cdv A outer s H E).zby p oe) body t∧t { nx:=fun _ H'=>Q .non H',rt:=Q } (start N vs) H) :
  RunP P w K mg base (k + 1) f (PySem.W.fnOf name qual params body scope dV kV doc pm an cdv ct) ps p oe sp:=by
 intro A outer s H args us vs Q E hr e0 hb r pin hsp
 have hl:=len _ _ _ _ hsp
 have KX:K.In s.heap:=e0.mod.kin.keeps fun b o e=>(e0.bs b o e).1
 have lim:s.heap.NoLimit:=e0.mod.nolimit.keeps fun b o e=>(e0.bs b o e).1
 have hkind:∀ y ∈ ps.zip us,scope.names.lookup y.1=some .local∨(scope.names.lookup y.1=some .cell∧((cellsFrom (s.heap.objs.size + 1) scope.names []).lookup y.1).isSome=true):=fun ⟨n,v⟩ hy=>by
  rcases S.par n (List.of_mem_zip hy).1 with q | q
  ·exact .inl q
  ·exact .inr ⟨q,PySem.W.cellsFrom_some _ _ _ (.inl q)⟩
 refine codeAny_call_function (A:=A.mark (some (.ref p))) hr.depth (KX _ _ lk) rfl S.co S.gen rfl (PySem.W.codeRec_of KX hcd) (hb _ _ _ _ ?_)
 refine wpAny_newFunctionEnv_cells S.kind hkind fun env he s1 x=>?_
 subst he
 refine ⟨lim.keeps x.toInCall.keep,codeAny_func ?_⟩
 obtain ⟨t,ht,hq⟩:=hbody A outer s H vs Q E (hr.deeper _) hsp
 have I0:Inv (cxOf CX0 P w K mg base N qual scope f cdv A outer s H E) [] (start N vs) H s1:=zew S hr.hd e0 hl r x
 obtain ⟨p1,p2,p3,p4⟩:=pin
 have hlt:p < s.heap.objs.size:=by
  rcases Nat.lt_or_ge p s.heap.objs.size with h | h
  ·exact h
  ·exfalso
   first | (rw [Heap.get?_none_of_ge h] at p1;cases p1) | (simp [Heap.get?,h] at p1) | (unfold Heap.get? at p1;simp [h] at p1)
 have I:Inv ((cxOf CX0 P w K mg base N qual scope f cdv A outer s H E).zby p oe) [] (start N vs) H s1:=I0.zby ⟨x.toInCall.keep _ _ p1,p2,fun z=>absurd hlt (by rw [z];exact Nat.lt_irrefl _),p3,p4⟩
 refine wpAny_mono (ht [] s1 (start N vs) H _ I hq) (fun fl s' hs=>?_) fun e s' hs=>hs.elim
 have fin:∀ {σ':St} {H':Hp} {v:V} {u:Value},Inv ((cxOf CX0 P w K mg base N qual scope f cdv A outer s H E).zby p oe) [] σ' H' s'→RelV v u→Q v H'→CE outer P w H s Q u s' :=
  fun {σ' H' v u} J rv q=>⟨v,H',J.os,J.bare,J.base,J.hok,rv,q⟩
 cases fl with
 | ret u =>
  obtain ⟨v,σ',H',J,rv,q⟩:=hs
  exact fin J rv q
 | next =>
  obtain ⟨σ',H',J,q⟩:=hs
  exact fin (v:=V.non) (u:=Value.none) J rfl q
 | brk =>
  obtain ⟨_,_,_,q⟩:=hs
  exact False.elim q
 | cont =>
  obtain ⟨_,_,_,q⟩:=hs
  exact False.elim q
end
end L2
namespace V2
open PySem PySem.Spec PyProof.Rows L2
def DefP (P:Program) (w:World) (K:PySem.W.Frag) (mg:Str→Option Value) (base:Heap) (x:Str) (k:Nat) (ps:List Str) (p:Addr) (oe:Obj) (F:List A→Mo A):Prop :=
 ∃ f fd,RunP P w K mg base k f fd ps p oe (fun vs H Q _=>spV K ps.length F vs H Q fun _ _ _=>False)∧mg x=some (.ref f)∧PySem.W.keepIn K (.ref f)=true∧Binds K fd ps []
theorem DefP.of {P:Program} {w:World} {K:PySem.W.Frag} {mg:Str→Option Value} {base:Heap} {p:Addr} {oe:Obj} {x:Str} {st:Stmt} {N ps:List Str} {k:Nat} {b:MS} (h:HasFn K mg x st) (S:zat N ps (zab st))
  (bind:∀ (kV doc pm:Value) (an:Option Addr) (cdv ct:Value) (us:List Value),us.length=ps.length→bindArgs (PySem.W.fnOf x x (zav st) (zaj st) (zab st) .none kV doc pm an cdv ct) ⟨us,[]⟩ = pure (ps.zip us))
  (hbody:∀ (f:Addr) (cdv:Value) (A:Around) (outer:List Env) (s:Shared) (H:Hp) (E:XK),Room k (A.deeper (envOfC x (zab st) s.heap.objs.size f cdv)) →
   VSs ((cxOf CX0 P w K mg base N x (zab st) f cdv A outer s H E).zby p oe) noW (zaj st) b):DefP P w K mg base x (k + 1) ps p oe (fnF N.length b):=by
 obtain ⟨f,fd,hm,F⟩:=h.ex
 refine ⟨f,fd,?_,hm,F.kp,F.binds bind⟩
 obtain ⟨oc,od,kV,doc,pm,an,cdv,ct,osl,rfl,lk,hcd⟩:=F.ex
 refine zmA lk hcd S (fun vs H Q E h=>h.1) fun A outer s H vs Q E hr hsp=>?_
 obtain ⟨t,p,q⟩:=hbody f cdv A outer s H E hr
 exact ⟨t,p,zfD (E:=fun _ _ _=>False) q hsp⟩
section
variable {X:Cx} {W:WX} {x:Str} {e:Expr} {es:List Expr} {np pos:Pos} {fs:Ev→Mo (List A)} {p:Addr} {oe:Obj}
end
end V2
namespace V2
open PySem PySem.Spec PyProof.Rows L2
end V2
namespace M
open PySem V2
end M
namespace V2
open PySem PySem.Spec PyProof.Rows L2
end V2
namespace V2
open PySem PySem.Spec PyProof.Rows L2
end V2
namespace V2
open PySem PySem.Spec PyProof.Rows L2
section
variable {X:Cx} {W:WX} {st:List Stmt} {g:MS}
end
end V2
namespace M
open PySem V2
end M
namespace M
open PySem V2
noncomputable def zam:MS :=
 (sSeq (sIf (zaI (vOp gEq (vVar 1) (cI 0)))
   (sRet (vOp (gMod) (vVar 0) (cI 7)))
   sNx)
  (sSeq (sIf (zaI (vOp gEq (vVar 1) (cI 1)))
   (sRet (vOp (gSub) (vOp (gMod) (vVar 0) (cI 100)) (cI 50)))
   sNx)
  (sSeq (sIf (zaI (vOp gEq (vVar 1) (cI 2)))
   (sRet (vOp (gSub) (vOp (gMod) (vOp (gMul) (vOp (gMul) (vVar 0) (vVar 0)) (cI 48271)) (vOp (gAdd false) (vOp (gMul) (cI 2) (vOp (gPow) (cI 10) (cI 18))) (cI 1))) (vOp (gPow) (cI 10) (cI 18))))
   sNx)
  (sSeq (sIf (zaI (vOp gEq (vVar 1) (cI 3)))
   (sRet (vOp gIx (vLst false (zac (vOp (gAdd false) (vOp (gPow) (cI 10) (cI 59)) (vVar 0)) (zac (vOp (gSub) (vOp (gSub) (cI 0) (vOp (gPow) (cI 10) (cI 59))) (vVar 0)) (zac (vOp (gSub) (vOp (gPow) (cI 10) (cI 60)) (cI 1)) (zac (vOp (gSub) (cI 1) (vOp (gPow) (cI 10) (cI 60))) a0))))) (vOp (gMod) (vVar 0) (cI 4))))
   sNx)
  (sRet (vOp gIx (vLst false (zac (cI 5) (zac (vOp (gSub) (cI 0) (cI 5)) (zac (cI 0) a0)))) (vOp (gDiv) (vOp (gMod) (vVar 0) (cI 30)) (cI 14))))))))
noncomputable def zah:List A→Mo A:=fnF 2 zam
end M
namespace V2
open PySem PySem.Spec PyProof.Rows L2
def putD {α:Type} (f:Str) (v:α):List (Str × α)→List (Str × α)
 | []=>[(f,v)]
 | (g,x) :: r=>if g=f then (g,v) :: r else (g,x) :: putD f v r
@[simp] def Fd.cell:Fd→Option Cell
 | .lst ds=>some (.lst ds)
 | .dct kvs=>some (.dct kvs)
 | .val _=>none
theorem zdA {α:Type} {f:Str}:∀ {l:List (Str × α)} {x:α},l.lookup f=some x→∃ i,l[i]? = some (f,x)∧∀ y,putD f y l=l.set i (f,y)
 | [],_,h=>by simp at h
 | (g,z) :: r,x,h=>by
  by_cases e:g=f
  ·subst e
   simp [List.lookup] at h
   subst h
   exact ⟨0,rfl,fun y=>by simp [putD]⟩
  ·have hb:(f == g)=false:=beq_eq_false_iff_ne.mpr (Ne.symm e)
   simp only [List.lookup,hb] at h
   obtain ⟨i,h1,h2⟩:=zdA h
   exact ⟨i + 1,by simpa using h1,fun y=>by simp [putD,e,h2 y]⟩
theorem zbg {α:Type} {f g:Str} {v:α}:∀ {l:List (Str × α)},(putD f v l).lookup g=if g=f then some v else l.lookup g
 | []=>by
  by_cases e:g=f
  ·subst e;simp [putD]
  ·have hb:(g == f)=false:=beq_eq_false_iff_ne.mpr e
   simp [putD,List.lookup,hb,e]
 | (k,x) :: r=>by
  have ih:=zbg (f:=f) (g:=g) (v:=v) (l:=r)
  by_cases h:k=f
  ·subst h
   by_cases e:g=k
   ·subst e;simp [putD]
   ·have hb:(g == k)=false:=beq_eq_false_iff_ne.mpr e
    simp [putD,List.lookup,hb,e]
  ·by_cases e:g=k
   ·subst e;simp [putD,h]
   ·have hb:(g == k)=false:=beq_eq_false_iff_ne.mpr e
    simp only [putD,if_neg h,List.lookup,hb]
    exact ih
theorem zbo {α:Type} {f:Str} {v w:α}:∀ {l:List (Str × α)},putD f w (putD f v l)=putD f w l
 | []=>by simp [putD]
 | (k,x) :: r=>by
  by_cases h:k=f
  ·simp [putD,h]
  ·simp [putD,h,zbo (l:=r)]
theorem zf8 {α:Type} {f:Str} {v:α}:∀ {l:List (Str × α)},l.lookup f=some v→putD f v l=l
 | [],h=>by simp at h
 | (k,x) :: r,h=>by
  by_cases e:k=f
  ·subst e
   simp [List.lookup] at h
   subst h
   simp [putD]
  ·have hb:(f == k)=false:=beq_eq_false_iff_ne.mpr (Ne.symm e)
   simp only [List.lookup,hb] at h
   simp [putD,e,zf8 h]
section
variable {K:PySem.W.Frag} {G H:Hp} {ι:List Addr} {Ω:Sto}
theorem zbb:∀ {ws:List (Str × V)} {fs:List (Str × Fd)},zbV K G ι H ws fs↔ws.length=fs.length∧∀ (i:Nat) (h:Str) (v:V) (g:Str) (fd:Fd),ws[i]? = some (h,v)→fs[i]? = some (g,fd)→h=g∧FdOk K G ι H v fd
 | [],[]=>⟨fun _=>⟨rfl,fun i h v g fd q=>by simp at q⟩,fun _=>trivial⟩
 | [],_ :: _=>⟨fun h=>h.elim,fun h=>by simp at h⟩
 | _ :: _,[]=>⟨fun h=>h.elim,fun h=>by simp at h⟩
 | (f,v) :: ws,(g,d) :: fs=>by
  constructor
  ·rintro ⟨h1,h2,h3⟩
   obtain ⟨q1,q2⟩:=zbb.mp h3
   refine ⟨by simp [q1],fun i h v' g' fd a b=>?_⟩
   cases i with
   | zero=>simp at a b;obtain ⟨rfl,rfl⟩:=a;obtain ⟨rfl,rfl⟩:=b;exact ⟨h1,h2⟩
   | succ i=>exact q2 i h v' g' fd (by simpa using a) (by simpa using b)
  ·rintro ⟨q1,q2⟩
   obtain ⟨h1,h2⟩:=q2 0 f v g d rfl rfl
   exact ⟨h1,h2,zbb.mpr ⟨by simpa using q1,fun i h v' g' fd a b=>q2 (i + 1) h v' g' fd (by simpa using a) (by simpa using b)⟩⟩
theorem zbV.look {ws:List (Str × V)} {fs:List (Str × Fd)} {f:Str} {fd:Fd} (h:zbV K G ι H ws fs) (l:fs.lookup f=some fd):∃ v,ws.lookup f=some v∧FdOk K G ι H v fd:=by
 induction fs generalizing ws with
 | nil=>simp at l
 | cons p fs ih =>
  obtain ⟨g,d⟩:=p
  cases ws with
  | nil=>exact h.elim
  | cons q ws =>
   obtain ⟨g',v⟩:=q
   obtain ⟨e,h2,h3⟩:=h
   subst e
   by_cases hb:(f == g')=true
   ·simp only [List.lookup,hb] at l ⊢
    cases l
    exact ⟨v,rfl,h2⟩
   ·have hb:(f == g')=false:=by simpa using hb
    simp only [List.lookup,hb] at l ⊢
    exact ih h3 l
theorem zbV.zmU {ws:List (Str × V)} {fs:List (Str × Fd)} {f:Str} (h:zbV K G ι H ws fs) (l:fs.lookup f=none):ws.lookup f=none:=by
 induction fs generalizing ws with
 | nil =>
  cases ws with
  | nil=>rfl
  | cons q ws=>exact h.elim
 | cons p fs ih =>
  obtain ⟨g,d⟩:=p
  cases ws with
  | nil=>exact h.elim
  | cons q ws =>
   obtain ⟨g',v⟩:=q
   obtain ⟨e,h2,h3⟩:=h
   subst e
   by_cases hb:(f == g')=true
   ·simp only [List.lookup,hb] at l;cases l
   ·have hb:(f == g')=false:=by simpa using hb
    simp only [List.lookup,hb] at l ⊢
    exact ih h3 l
theorem zbV.put {ws:List (Str × V)} {fs:List (Str × Fd)} {f:Str} {fd:Fd} {v:V} (h:zbV K G ι H ws fs) (d:FdOk K G ι H v fd):zbV K G ι H (putF f v ws) (putD f fd fs):=by
 induction fs generalizing ws with
 | nil =>
  cases ws with
  | nil=>exact ⟨rfl,d,trivial⟩
  | cons q ws=>exact h.elim
 | cons p fs ih =>
  obtain ⟨g,x⟩:=p
  cases ws with
  | nil=>exact h.elim
  | cons q ws =>
   obtain ⟨g',v'⟩:=q
   obtain ⟨e,h2,h3⟩:=h
   subst e
   by_cases hg:g'=f
   ·simp only [putF,putD,if_pos hg];exact ⟨rfl,d,h3⟩
   ·simp only [putF,putD,if_neg hg];exact ⟨rfl,h2,ih h3⟩
theorem zbV.len {ws:List (Str × V)} {fs:List (Str × Fd)} (h:zbV K G ι H ws fs):ws.length=fs.length:=(zbb.mp h).1
theorem FdOk.ownC {v:V} {fd:Fd} {c:Cell} (h:FdOk K G ι H v fd) (hc:fd.cell=some c):∃ b,v = .ref b∧b ∉ ι∧(∃ o,H b=some o)∧zcl K G ι H b c:=by
 cases fd with
 | val a=>cases hc
 | lst ds=>cases hc;obtain ⟨b,xs,h1,h2,h3,h4,h5⟩:=h;exact ⟨b,h1,h3,⟨_,h4⟩,h2,xs,h4,h5⟩
 | dct kvs=>cases hc;obtain ⟨b,ws,h1,h2,h3,h4,h5,h6⟩:=h;exact ⟨b,h1,h3,⟨_,h4⟩,h2,ws,h4,h5,h6⟩
theorem FdOk.ofC {b:Addr} {fd:Fd} {c:Cell} (hc:fd.cell=some c) (hb:b ∉ ι) (h:zcl K G ι H b c):FdOk K G ι H (.ref b) fd:=by
 cases fd with
 | val a=>cases hc
 | lst ds=>cases hc;obtain ⟨h1,xs,h2,h3⟩:=h;exact ⟨b,xs,rfl,h1,hb,h2,h3⟩
 | dct kvs=>cases hc;obtain ⟨h1,ws,h2,h3,h4⟩:=h;exact ⟨b,ws,rfl,h1,hb,h2,h3,h4⟩
theorem Fd.zj3 {fd:Fd} {c:Cell} (hc:fd.cell=some c):fd.own=true:=by cases fd <;> first | rfl | cases hc
theorem Fd.zfl {fd:Fd} {c:Cell} (hc:fd.cell=some c):c.noOwn=true:=by cases fd <;> cases hc <;> rfl
theorem FdOk.lend {b:Addr} {v:V} {fd:Fd} (h:FdOk K G ι H v fd) (hb:fd.own=true→v ≠ .ref b):FdOk K G (ι ++ [b]) H v fd:=by
 cases fd with
 | val a=>exact Den.ext (Ext.cell b) h
 | lst ds =>
  obtain ⟨b',xs,h1,h2,h3,h4,h5⟩:=h
  exact ⟨b',xs,h1,h2,by simp;exact ⟨h3,fun e=>hb rfl (by rw [h1,e])⟩,h4,h5.ext (Ext.cell b)⟩
 | dct kvs =>
  obtain ⟨b',ws,h1,h2,h3,h4,h5,h6⟩:=h
  exact ⟨b',ws,h1,h2,by simp;exact ⟨h3,fun e=>hb rfl (by rw [h1,e])⟩,h4,h5,h6.ext (Ext.cell b)⟩
theorem Wd.unfold {s:Nat} {cls f:Str} {fs:List (Str × Fd)} {fd:Fd} {c:Cell} (w:Wd K G ι Ω H) (hs:Ω[s]? = some (.ins cls fs)) (hf:fs.lookup f=some fd) (hc:fd.cell=some c) :
  ∃ b,Wd K G (ι ++ [b]) (Ω.set s (.ins cls (putD f (.val (.cel Ω.length)) fs)) ++ [c]) H:=by
 obtain ⟨a,ha⟩:=w.addr hs
 obtain ⟨g,C,dx,ws,h0,h1,h2⟩:=w.cel s _ a hs ha
 obtain ⟨i0,e1,e2⟩:=zdA hf
 obtain ⟨q1,q2⟩:=zbb.mp h2
 have hi0:i0 < fs.length:=(List.getElem?_eq_some_iff.mp e1).1
 obtain ⟨⟨k0,v0⟩,e3⟩ : ∃ p,ws[i0]? = some p:=⟨ws[i0]'(by omega),List.getElem?_eq_getElem _⟩
 obtain ⟨rfl,o0⟩:=q2 i0 k0 v0 f fd e3 e1
 obtain ⟨b,rfl,hb,⟨o,ho⟩,hC⟩:=o0.ownC hc
 have own0:zbS H ι Ω s i0 b:=⟨a,cls,fs,C,dx,ws,_,_,fd,ha,hs,h1,e1,Fd.zj3 hc,e3⟩
 have hsl:s < Ω.length:=(List.getElem?_eq_some_iff.mp hs).1
 have hι:∀ k,k < Ω.length→(ι ++ [b])[k]? = ι[k]?:=fun k hk=>List.getElem?_append_left (by rw [w.len];exact hk)
 have hΩ:∀ k,k < Ω.length→(Ω.set s (.ins cls (putD k0 (.val (.cel Ω.length)) fs)) ++ [c])[k]? = (Ω.set s (.ins cls (putD k0 (.val (.cel Ω.length)) fs)))[k]?:=fun k hk=>List.getElem?_append_left (by simpa using hk)
 refine ⟨b,w.sub,?_,by simp [w.len],fun x hx=>?_,fun k c' a' z1 z2=>?_,fun b' k i k' i' z1 z2=>?_⟩
 ·rw [List.nodup_append]
  exact ⟨w.inj,by simp,fun x hx y hy=>by simp at hy;subst hy;exact fun e=>hb (e ▸ hx)⟩
 ·rcases List.mem_append.mp hx with h | h
  ·exact w.live x h
  ·simp at h;subst h;exact ⟨o,ho⟩
 ·by_cases hk:k < Ω.length
  ·rw [hι k hk] at z2
   rw [hΩ k hk] at z1
   by_cases hks:k=s
   ·subst hks
    rw [List.getElem?_set_self hsl] at z1
    cases z1
    rw [ha] at z2;cases z2
    refine ⟨g,C,dx,ws,h0,h1,zbb.mpr ⟨by rw [e2];simpa using q1,fun j h v g' fd' y1 y2=>?_⟩⟩
    rw [e2] at y2
    by_cases hj:j=i0
    ·subst hj
     rw [List.getElem?_set_self hi0] at y2
     cases y2
     rw [e3] at y1;cases y1
     refine ⟨rfl,?_⟩
     simp only [FdOk,Den]
     exact ⟨b,rfl,by rw [← w.len];simp⟩
    ·rw [List.getElem?_set_ne (Ne.symm hj)] at y2
     obtain ⟨r1,r2⟩:=q2 j h v g' fd' y1 y2
     refine ⟨r1,r2.lend fun ow ev=>hj ?_⟩
     subst ev
     exact (w.sep b _ j _ i0 ⟨a,cls,fs,C,dx,ws,_,_,fd',ha,hs,h1,y2,ow,y1⟩ own0).2
   ·rw [List.getElem?_set_ne (Ne.symm hks)] at z1
    have q:=w.cel k c' a' z1 z2
    cases c' with
    | lst ds=>obtain ⟨y1,xs,y2,y3⟩:=q;exact ⟨y1,xs,y2,y3.ext (Ext.cell b)⟩
    | dct kvs=>obtain ⟨y1,ws',y2,y3,y4⟩:=q;exact ⟨y1,ws',y2,y3,y4.ext (Ext.cell b)⟩
    | ins cls' fs' =>
     obtain ⟨y0,C',dx',ws',y1,y2,y3⟩:=q
     obtain ⟨p1,p2⟩:=zbb.mp y3
     refine ⟨y0,C',dx',ws',y1,y2,zbb.mpr ⟨p1,fun j h v g' fd' y4 y5=>?_⟩⟩
     obtain ⟨r1,r2⟩:=p2 j h v g' fd' y4 y5
     refine ⟨r1,r2.lend fun ow ev=>hks ?_⟩
     subst ev
     exact (w.sep b k j s i0 ⟨a',cls',fs',C',dx',ws',_,_,fd',z2,z1,y2,y5,ow,y4⟩ own0).1
    | tab x pos qual=>exact q
    | dead=>trivial
  ·have hk2:k=Ω.length:=by
    have:=(List.getElem?_eq_some_iff.mp z1).1
    simp at this;omega
   subst hk2
   rw [← w.len] at z2
   simp at z2
   subst z2
   simp at z1
   subst z1
   cases fd with
   | val x=>cases hc
   | lst ds=>cases hc;obtain ⟨y1,xs,y2,y3⟩:=hC;exact ⟨y1,xs,y2,y3.ext (Ext.cell b)⟩
   | dct kvs=>cases hc;obtain ⟨y1,ws',y2,y3,y4⟩:=hC;exact ⟨y1,ws',y2,y3,y4.ext (Ext.cell b)⟩
 ·have back:∀ {k i},zbS H (ι ++ [b]) (Ω.set s (.ins cls (putD k0 (.val (.cel Ω.length)) fs)) ++ [c]) k i b'→zbS H ι Ω k i b':=fun {k i} h=>by
   have h0':=h
   obtain ⟨a',cls',fs',C',dx',ws',g',h',fd',y1,y2,y3,y4,y5,y6⟩:=h
   by_cases hk:k < Ω.length
   ·rw [hι k hk] at y1
    rw [hΩ k hk] at y2
    by_cases hks:k=s
    ·subst hks
     rw [List.getElem?_set_self hsl] at y2
     cases y2
     rw [ha] at y1;cases y1
     rw [h1] at y3;cases y3
     rw [e2] at y4
     by_cases hj:i=i0
     ·subst hj
      rw [List.getElem?_set_self hi0] at y4
      cases y4
      cases y5
     ·rw [List.getElem?_set_ne (Ne.symm hj)] at y4
      exact ⟨a,_,fs,C,dx,ws,g',h',fd',ha,hs,h1,y4,y5,y6⟩
    ·rw [List.getElem?_set_ne (Ne.symm hks)] at y2
     exact ⟨a',cls',fs',C',dx',ws',g',h',fd',y1,y2,y3,y4,y5,y6⟩
   ·have hk2:k=Ω.length:=by
     have:=(List.getElem?_eq_some_iff.mp y2).1
     simp at this;omega
    subst hk2
    exact (h0'.no (by simp) (Fd.zfl hc)).elim
  exact w.sep b' k i k' i' (back z1) (back z2)
theorem ClFs.get {n:Nat}:∀ {fs:List (Str × Fd)} {i:Nat} {p:Str × Fd},ClFs n fs→fs[i]? = some p→ClF n p.2
 | [],_,_,_,h=>by simp at h
 | _ :: _,0,_,c,h=>by simp at h;subst h;exact c.1
 | _ :: fs,i + 1,_,c,h=>ClFs.get (fs:=fs) c.2 (by simpa using h)
theorem Wd.fold {s:Nat} {cls f:Str} {fs:List (Str × Fd)} {fd:Fd} {c:Cell} {Ωa:Sto} (w:Wd K G ι (Ωa ++ [c]) H) (hs:Ωa[s]? = some (.ins cls fs)) (hf:fs.lookup f=some (.val (.cel Ωa.length))) (hc:fd.cell=some c)
  (hk:∀ k c',k ≠ s→Ωa[k]? = some c'→ClC Ωa.length c') (hfs:ClFs Ωa.length (putD f fd fs)):Wd K G (ι.take Ωa.length) (Ωa.set s (.ins cls (putD f fd fs))) H:=by
 have hsl:s < Ωa.length:=(List.getElem?_eq_some_iff.mp hs).1
 have hlen:ι.length=Ωa.length + 1:=by rw [w.len];simp
 have hΩ:∀ k,k < Ωa.length→(Ωa ++ [c])[k]? = Ωa[k]?:=fun k hk=>List.getElem?_append_left hk
 have hι:∀ k,k < Ωa.length→(ι.take Ωa.length)[k]? = ι[k]?:=fun k hk=>by rw [List.getElem?_take,if_pos hk]
 obtain ⟨b,hb⟩ : ∃ b,ι[Ωa.length]? = some b:=⟨ι[Ωa.length]'(by omega),List.getElem?_eq_getElem _⟩
 have eι:ι=ι.take Ωa.length ++ [b]:=by
  have:=List.take_append_getElem (l:=ι) (i:=Ωa.length) (by omega)
  rw [List.getElem?_eq_getElem (show Ωa.length < ι.length by omega)] at hb
  cases hb
  rw [List.take_append_getElem,List.take_of_length_le (by omega)]
 have hbn:b ∉ ι.take Ωa.length:=fun z=>by
  have nd:=w.inj
  rw [eι,List.nodup_append] at nd
  exact nd.2.2 b z b (by simp) rfl
 have sub:∀ x,x ∉ ι→x ∉ ι.take Ωa.length:=fun x hx z=>hx (List.mem_of_mem_take z)
 have ha:∃ a,ι[s]? = some a:=w.addr (show (Ωa ++ [c])[s]? = some (.ins cls fs) by rw [hΩ s hsl];exact hs)
 obtain ⟨a,ha⟩:=ha
 obtain ⟨g,C,dx,ws,h0,h1,h2⟩:=w.cel s _ a (by rw [hΩ s hsl];exact hs) ha
 obtain ⟨i0,e1,e2⟩:=zdA hf
 obtain ⟨q1,q2⟩:=zbb.mp h2
 have hi0:i0 < fs.length:=(List.getElem?_eq_some_iff.mp e1).1
 have hcb:=w.cel Ωa.length c b (by simp) hb
 refine ⟨w.sub,w.inj.sublist (List.take_sublist ..),by simp [hlen],fun x hx=>w.live x (List.mem_of_mem_take hx),fun k c' a' z1 z2=>?_,fun b' k i k' i' z1 z2=>?_⟩
 ·have hkl:k < Ωa.length:=by simpa using (List.getElem?_eq_some_iff.mp z1).1
  rw [hι k hkl] at z2
  by_cases hks:k=s
  ·subst hks
   rw [List.getElem?_set_self hsl] at z1
   cases z1
   rw [ha] at z2;cases z2
   refine ⟨g,C,dx,ws,h0,h1,zbb.mpr ⟨by rw [e2];simpa using q1,fun j h v g' fd' y1 y2=>?_⟩⟩
   have cl':ClF Ωa.length fd':=hfs.get y2
   rw [e2] at y2
   by_cases hj:j=i0
   ·subst hj
    rw [List.getElem?_set_self hi0] at y2
    cases y2
    obtain ⟨r1,r2⟩:=q2 j h v _ _ y1 e1
    refine ⟨r1,?_⟩
    simp only [FdOk,Den] at r2
    obtain ⟨b2,rfl,hb2⟩:=r2
    rw [hb] at hb2;cases hb2
    exact FdOk.ofC hc hbn (hcb.cut hι sub (by cases fd <;> cases hc <;> exact cl'))
   ·rw [List.getElem?_set_ne (Ne.symm hj)] at y2
    obtain ⟨r1,r2⟩:=q2 j h v g' fd' y1 y2
    exact ⟨r1,r2.cut hι sub cl'⟩
  ·rw [List.getElem?_set_ne (Ne.symm hks)] at z1
   exact (w.cel k c' a' (by rw [hΩ k hkl];exact z1) z2).cut hι sub (hk k c' hks z1)
 ·
  have back:∀ {k i},zbS H (ι.take Ωa.length) (Ωa.set s (.ins cls (putD f fd fs))) k i b'→(zbS H ι (Ωa ++ [c]) k i b'∧b' ∉ ι)∨(k=s∧i=i0∧b'=b):=fun {k i} h=>by
   obtain ⟨a',cls',fs',C',dx',ws',g',h',fd',y1,y2,y3,y4,y5,y6⟩:=h
   have hkl:k < Ωa.length:=by simpa using (List.getElem?_eq_some_iff.mp y2).1
   rw [hι k hkl] at y1
   have out:∀ {cls' fs' ws' C' dx' fd' g' h'},(Ωa ++ [c])[k]? = some (.ins cls' fs')→H a'=some (.ins C' dx' ws')→fs'[i]? = some (g',fd')→fd'.own=true→ws'[i]? = some (h',V.ref b')→b' ∉ ι:=fun {_ _ _ _ _ fdx _ _} x1 x2 x3 x4 x5=>by
    obtain ⟨_,_,_,ws2,_,p1,p2⟩:=w.cel k _ a' x1 y1
    rw [x2] at p1;cases p1
    obtain ⟨_,r⟩:=(zbb.mp p2).2 i _ _ _ _ x5 x3
    cases fdx with
    | val x=>cases x4
    | lst ds=>obtain ⟨b3,_,t1,_,t2,_⟩:=r;cases t1;exact t2
    | dct kvs=>obtain ⟨b3,_,t1,_,t2,_⟩:=r;cases t1;exact t2
   by_cases hks:k=s
   ·subst hks
    rw [List.getElem?_set_self hsl] at y2
    cases y2
    rw [ha] at y1;cases y1
    rw [h1] at y3;cases y3
    rw [e2] at y4
    by_cases hj:i=i0
    ·subst hj
     right
     rw [List.getElem?_set_self hi0] at y4
     cases y4
     obtain ⟨r1,r2⟩:=q2 i _ _ _ _ y6 e1
     simp only [FdOk,Den] at r2
     obtain ⟨b2,eb,hb2⟩:=r2
     rw [hb] at hb2;cases hb2
     cases eb
     exact ⟨rfl,rfl,rfl⟩
    ·rw [List.getElem?_set_ne (Ne.symm hj)] at y4
     have hs':(Ωa ++ [c])[k]? = some (.ins cls fs):=by rw [hΩ k hkl];exact hs
     exact .inl ⟨⟨a,_,fs,C,dx,ws,g',h',fd',ha,hs',h1,y4,y5,y6⟩,out hs' h1 y4 y5 y6⟩
   ·rw [List.getElem?_set_ne (Ne.symm hks)] at y2
    have hs':(Ωa ++ [c])[k]? = some (.ins cls' fs'):=by rw [hΩ k hkl];exact y2
    exact .inl ⟨⟨a',cls',fs',C',dx',ws',g',h',fd',y1,hs',y3,y4,y5,y6⟩,out hs' y3 y4 y5 y6⟩
  have hbι:b ∈ ι:=List.mem_of_getElem? hb
  rcases back z1 with ⟨x1,x2⟩ | ⟨x1,x2,x3⟩ <;> rcases back z2 with ⟨y1,y2⟩ | ⟨y1,y2,y3⟩
  ·exact w.sep b' k i k' i' x1 y1
  ·subst y3;exact absurd hbι x2
  ·subst x3;exact absurd hbι y2
  ·exact ⟨x1.trans y1.symm,x2.trans y2.symm⟩
end
end V2
namespace V2
open PySem PySem.Spec PyProof.Rows L2
def Unf (s:Nat) (f:Str) (Ω Ω1:Sto):Prop:=∃ cls fs fd c,Ω[s]? = some (.ins cls fs)∧fs.lookup f=some fd∧fd.cell=some c∧Ω1=Ω.set s (.ins cls (putD f (.val (.cel Ω.length)) fs)) ++ [c]
def Folds (s:Nat) (f:Str) (n:Nat) (Ω2 Ω':Sto):Prop:=∃ Ωa c cls fs fd,Ω2=Ωa ++ [c]∧Ωa.length=n∧Ωa[s]? = some (.ins cls fs)∧fs.lookup f=some (.val (.cel n))∧fd.cell=some c ∧
 (∀ k c',k ≠ s→Ωa[k]? = some c'→ClC n c')∧ClFs n (putD f fd fs)∧Ω'=Ωa.set s (.ins cls (putD f fd fs))
structure ClS (Ω:Sto) (ρ:Ev):Prop where
 cel:∀ (k:Nat) (c:Cell),Ω[k]? = some c→ClC Ω.length c
 env:∀ (i:Nat) (d:A),ρ[i]? = some (some d)→Cl Ω.length d
section
variable {K:PySem.W.Frag} {G H:Hp} {ι:List Addr} {Ω Ω1 Ω2 Ω':Sto} {σ:L2.St} {ρ:Ev} {W:WX} {s:Nat} {f:Str}
theorem Wd.clS (w:Wd K G ι Ω H) (r:EnvR K G ι σ ρ):ClS Ω ρ where
 cel:=fun k c h=>by
  obtain ⟨a,ha⟩:=w.addr h
  have:=(w.cel k c a h ha).cl
  rwa [w.len] at this
 env:=fun i d h=>by
  obtain ⟨v,_,q⟩:=r.2 i d h
  have:=q.cl
  rwa [w.len] at this
theorem Wd.unf (w:Wd K G ι Ω H) (h:Unf s f Ω Ω1):∃ b,Wd K G (ι ++ [b]) Ω1 H:=by
 obtain ⟨cls,fs,fd,c,h1,h2,h3,rfl⟩:=h
 exact w.unfold h1 h2 h3
theorem zhG {G':Hp} {ι':List Addr} {b:Addr} {n:Nat} (hl:ι.length=n) (e:Ext G (ι ++ [b]) G' ι'):Ext G ι G' (ι'.take n):=⟨e.same,fun k x h=>by
 have hk:=(List.getElem?_eq_some_iff.mp h).1
 rw [List.getElem?_take,if_pos (by omega)]
 exact e.pre k x (by rw [List.getElem?_append_left hk];exact h)⟩
theorem Wd.zmM {n:Nat} (w:Wd K G ι Ω2 H) (h:Folds s f n Ω2 Ω'):Wd K G (ι.take n) Ω' H:=by
 obtain ⟨Ωa,c,cls,fs,fd,rfl,rfl,h3,h4,h5,h6,h7,rfl⟩:=h
 exact w.fold h3 h4 h5 h6 h7
theorem zhv {ι':List Addr} {n:Nat}:∀ k,k < n→(ι'.take n)[k]? = ι'[k]?:=fun k hk=>by rw [List.getElem?_take,if_pos hk]
theorem zij {α β:Type} {rel:Rl α β} {cl:Nat→α→Prop} (hcut:∀ (G:Hp) (ι ι':List Addr) (n:Nat) (v:β) (a:α),(∀ k,k < n→ι[k]? = ι'[k]?)→rel G ι' v a→cl n a→rel G ι v a)
  {b:Addr} {Q:β→Hp→Prop} {a:α} (w:Wd K G ι Ω H) (hF:Folds s f Ω.length Ω2 Ω') (ha:cl Ω.length a) (h:Post K rel W G ι σ Q (some (.ok a,Ω'))):Post K rel W G (ι ++ [b]) σ Q (some (.ok a,Ω2)):=by
 intro v H' G' ι' e w' d
 exact h v H' G' (ι'.take Ω.length) (zhG w.len e) (w'.zmM hF) (hcut _ _ _ _ _ _ zhv d ha)
theorem zhE {σ':L2.St} {ρ':Ev} {G':Hp} {ι':List Addr} {n:Nat} (r:EnvR K G' ι' σ' ρ') (hc:∀ (i:Nat) (d:A),ρ'[i]? = some (some d)→Cl n d):EnvR K G' (ι'.take n) σ' ρ' :=
 ⟨r.1,fun i d h=>let ⟨v,h1,h2⟩:=r.2 i d h; ⟨v,h1,h2.cut zhv (hc i d h)⟩⟩
theorem zfn {b:Addr} {D:Ends} {ρ':Ev} (w:Wd K G ι Ω H) (hF:Folds s f Ω.length Ω2 Ω') (hc:∀ (i:Nat) (d:A),ρ'[i]? = some (some d)→Cl Ω.length d) (h:za9 K W G ι D (some (.nx,ρ',Ω'))):za9 K W G (ι ++ [b]) D (some (.nx,ρ',Ω2)):=by
 intro σ' H' G' ι' e w' r'
 exact h σ' H' G' (ι'.take Ω.length) (zhG w.len e) (w'.zmM hF) (zhE r' hc)
end
section
variable {X:Cx} {W:WX} {e:Expr} {tg:Expr} {st:Stmt} {g d:Ev→Mo A} {gb db:Ev→Mo Bool} {gs ds:MS} {gt dt:A→MS}
theorem zju (h:VE X W e g) (hd:∀ ρ Ω r,ClS Ω ρ→d ρ Ω=some r→∃ s f Ω1 a Ω2,Unf s f Ω Ω1∧g ρ Ω1=some (.ok a,Ω2)∧Folds s f Ω.length Ω2 r.2∧Cl Ω.length a∧r.1 = .ok a):VE X W e d:=by
 obtain ⟨t,p,sm⟩:=h
 refine ⟨t,p,fun G ι Ω H σ ρ Q w r h=>?_⟩
 cases e:d ρ Ω with
 | none=>rw [e] at h;exact h.elim
 | some q =>
  obtain ⟨s,f,Ω1,a,Ω2,h1,h2,h3,h4,h5⟩:=hd ρ Ω q (w.clS r) e
  obtain ⟨b,wb⟩:=w.unf h1
  obtain ⟨q1,q2⟩:=q
  simp only at h3 h5
  subst h5
  rw [e] at h
  refine sm G (ι ++ [b]) Ω1 H σ ρ Q wb (r.ext (Ext.cell b)) ?_
  rw [h2]
  exact zij (rel:=Den X.K) (cl:=Cl) (fun _ _ _ _ _ _ h1 h2 h3=>h2.cut h1 h3) w h3 h4 h
theorem zlq (h:VS X W st gs) (hd:∀ ρ Ω r,ClS Ω ρ→ds ρ Ω=some r→∃ s f Ω1 Ω2,Unf s f Ω Ω1∧gs ρ Ω1=some (.nx,r.2.1,Ω2)∧Folds s f Ω.length Ω2 r.2.2∧(∀ (i:Nat) (d:A),r.2.1[i]? = some (some d)→Cl Ω.length d)∧r.1 = .nx):VS X W st ds:=by
 obtain ⟨t,p,sm⟩:=h
 refine ⟨t,p,fun G ι Ω H σ ρ D w r h=>?_⟩
 cases e:ds ρ Ω with
 | none=>rw [e] at h;exact h.elim
 | some q =>
  obtain ⟨s,f,Ω1,Ω2,h1,h2,h3,h4,h5⟩:=hd ρ Ω q (w.clS r) e
  obtain ⟨b,wb⟩:=w.unf h1
  obtain ⟨q1,q2,q3⟩:=q
  simp only at h2 h3 h4 h5
  subst h5
  rw [e] at h
  refine sm G (ι ++ [b]) Ω1 H σ ρ D wb (r.ext (Ext.cell b)) ?_
  rw [h2]
  exact zfn w h3 h4 h
theorem zk5 (h:VG X W tg gt) (hd:∀ a ρ Ω r,ClS Ω ρ→Cl Ω.length a→dt a ρ Ω=some r→∃ s f Ω1 Ω2,Unf s f Ω Ω1∧gt a ρ Ω1=some (.nx,r.2.1,Ω2)∧Folds s f Ω.length Ω2 r.2.2∧(∀ (i:Nat) (d:A),r.2.1[i]? = some (some d)→Cl Ω.length d)∧r.1 = .nx):VG X W tg dt:=by
 obtain ⟨t,p,sm⟩:=h
 refine ⟨t,p,fun G ι Ω H σ ρ v a D w r dv h=>?_⟩
 cases e:dt a ρ Ω with
 | none=>rw [e] at h;exact h.elim
 | some q =>
  obtain ⟨s,f,Ω1,Ω2,h1,h2,h3,h4,h5⟩:=hd a ρ Ω q (w.clS r) (by have:=dv.cl;rwa [w.len] at this) e
  obtain ⟨b,wb⟩:=w.unf h1
  obtain ⟨q1,q2,q3⟩:=q
  simp only at h2 h3 h4 h5
  subst h5
  rw [e] at h
  refine sm G (ι ++ [b]) Ω1 H σ ρ v a D wb (r.ext (Ext.cell b)) (dv.ext (Ext.cell b)) ?_
  rw [h2]
  exact zfn w h3 h4 h
end
def zaW (K:PySem.W.Frag) (cs:List Str) (f:Str):Prop:=∀ cls ∈ cs,∃ C,PySem.W.nsIn K mainGlobals cls=some (some (.ref C))∧Cls K C∧zeC K C f
@[simp] def gFld (cs:List Str) (f:Str) (a:A):Mo A:=fun Ω=>match a with
 | .cel s=>match Ω[s]? with
  | some (.ins cls fs)=>if cls ∈ cs then match fs.lookup f with
   | some (.val b)=>some (.ok b,Ω)
   | _=>none else none
  | _=>none
 | _=>none
@[simp] def vFld (cs:List Str) (f:Str) (fe:Ev→Mo A):Ev→Mo A:=fun ρ=>mb (fe ρ) (gFld cs f)
@[simp] def zfC (cs:List Str) (f:Str) (fo fv:Ev→Mo A):MS:=fun ρ=>sM (fv ρ) ρ fun b=>sM (fo ρ) ρ fun a Ω=>match a with
 | .cel s=>match Ω[s]? with
  | some (.ins cls fs)=>if cls ∈ cs∧fs.length < 1000 then some (.nx,ρ,Ω.set s (.ins cls (putD f (.val b) fs))) else none
  | _=>none
 | _=>none
section
variable {K:PySem.W.Frag} {G H:Hp} {ι:List Addr} {Ω:Sto}
theorem Wd.ins (w:Wd K G ι Ω H) {s:Nat} {cls:Str} {fs:List (Str × Fd)} {v:V} (h:Ω[s]? = some (.ins cls fs)) (d:Den K G ι v (.cel s)):∃ a C dx,∃ ws:List (Str × V),v = .ref a∧ι[s]? = some a∧G a=none∧PySem.W.nsIn K mainGlobals cls=some (some (.ref C))∧H a=some (.ins C dx ws)∧zbV K G ι H ws fs:=by
 simp only [Den] at d
 obtain ⟨a,rfl,ha⟩:=d
 obtain ⟨g,C,dx,ws,h1,h2,h3⟩:=w.cel s _ a h ha
 exact ⟨a,C,dx,ws,rfl,ha,g,h1,h2,h3⟩
theorem zkH {f:Str} {v:V} {b:A}:∀ {ws:List (Str × V)} {fs:List (Str × Fd)} {i:Nat} {g h:Str} {fd:Fd} {x:V},zbV K G ι H ws fs→(putD f (.val b) fs)[i]? = some (g,fd)→fd.own=true→(putF f v ws)[i]? = some (h,x)→fs[i]? = some (g,fd)∧ws[i]? = some (h,x)
 | [],[],i,g,h,fd,x,_,y,o,_=>by
  cases i with
  | zero=>simp [putD] at y;obtain ⟨_,rfl⟩:=y;cases o
  | succ i=>simp [putD] at y
 | [],_ :: _,_,_,_,_,_,q,_,_,_=>q.elim
 | _ :: _,[],_,_,_,_,_,q,_,_,_=>q.elim
 | (k,u) :: ws,(k',d) :: fs,i,g,h,fd,x,q,y,o,z=>by
  obtain ⟨rfl,q2,q3⟩:=q
  by_cases e:k=f
  ·simp only [putD,putF,if_pos e] at y z
   cases i with
   | zero=>simp at y;obtain ⟨_,rfl⟩:=y;cases o
   | succ i=>exact ⟨by simpa using y,by simpa using z⟩
  ·simp only [putD,putF,if_neg e] at y z
   cases i with
   | zero=>exact ⟨by simpa using y,by simpa using z⟩
   | succ i =>
    have:=zkH (f:=f) (v:=v) (b:=b) (i:=i) q3 (by simpa using y) o (by simpa using z)
    exact ⟨by simpa using this.1,by simpa using this.2⟩
theorem Wd.setF (w:Wd K G ι Ω H) {s:Nat} {cls f:Str} {fs:List (Str × Fd)} {a C dx:Addr} {ws:List (Str × V)} {v:V} {b:A} (h:Ω[s]? = some (.ins cls fs)) (ha:ι[s]? = some a) (hg:G a=none) (h0:PySem.W.nsIn K mainGlobals cls=some (some (.ref C)))
  (h1:H a=some (.ins C dx ws)) (h2:zbV K G ι H ws fs) (d:Den K G ι v b):Wd K G ι (Ω.set s (.ins cls (putD f (.val b) fs))) (upd H a (.ins C dx (putF f v ws))):=by
 have hsl:s < Ω.length:=(List.getElem?_eq_some_iff.mp h).1
 have ho:∀ b o,b ∉ ι→G b=none→H b=some o→b ∉ ι∧G b=none∧upd H a (.ins C dx (putF f v ws)) b=some o:=fun b o x y z=>by
  have nb:b ≠ a:=fun e=>by subst e;exact x (zbI ha)
  exact ⟨x,y,by rw [zao nb];exact z⟩
 have h2':zbV K G ι (upd H a (.ins C dx (putF f v ws))) ws fs:=h2.map fun _ _ q=>q.mono (Ext.refl _ _) ho
 refine ⟨fun b u q=>?_,w.inj,by simp [w.len],fun b hb=>?_,fun j c' b z1 z2=>?_,fun b2 j i j' i' z1 z2=>?_⟩
 ·have e:b ≠ a:=fun e=>by subst e;rw [hg] at q;cases q
  rw [zao e];exact w.sub _ _ q
 ·by_cases e:b=a
  ·subst e;exact ⟨_,zaw⟩
  ·rw [zao e];exact w.live b hb
 ·by_cases hj:j=s
  ·subst hj
   rw [List.getElem?_set_self hsl] at z1
   cases z1
   rw [ha] at z2;cases z2
   exact ⟨hg,C,dx,_,h0,zaw,h2'.put d⟩
  ·rw [List.getElem?_set_ne (Ne.symm hj)] at z1
   have hne:b ≠ a:=fun e=>by subst e;exact hj (zb8 w.inj z2 ha)
   exact (w.cel j c' b z1 z2).mono (Ext.refl _ _) rfl (zao hne) ho
 ·have back:∀ {j i},zbS (upd H a (.ins C dx (putF f v ws))) ι (Ω.set s (.ins cls (putD f (.val b) fs))) j i b2→zbS H ι Ω j i b2:=fun {j i} q=>by
   obtain ⟨a',cls',fs',C',dx',ws',g',h',fd',y1,y2,y3,y4,y5,y6⟩:=q
   by_cases hj:j=s
   ·subst hj
    rw [List.getElem?_set_self hsl] at y2
    cases y2
    rw [ha] at y1;cases y1
    rw [zaw] at y3;cases y3
    have pi:=zkH h2 y4 y5 y6
    exact ⟨a,cls,fs,C,dx,ws,g',h',fd',ha,h,h1,pi.1,y5,pi.2⟩
   ·rw [List.getElem?_set_ne (Ne.symm hj)] at y2
    have hne:a' ≠ a:=fun e=>by subst e;exact hj (zb8 w.inj y1 ha)
    rw [zao hne] at y3
    exact ⟨a',cls',fs',C',dx',ws',g',h',fd',y1,y2,y3,y4,y5,y6⟩
  exact w.sep b2 j i j' i' (back z1) (back z2)
end
section
variable {X:Cx} {W:WX} {e o value:Expr} {f:Str} {cs:List Str} {pos pos':Pos} {fe fo fv:Ev→Mo A}
theorem zer (h:VE X W e fe) (hc:zaW X.K cs f) (hb:attributeBase e f X.env (eval e X.env)=eval e X.env:=by rfl):VE X W (.Attribute e f pos) (vFld cs f fe):=by
 obtain ⟨t,p,s⟩:=h
 refine ⟨_,zkQ p hb,fun G ι Ω H σ ρ Q w r h=>?_⟩
 refine s G ι Ω H σ ρ _ w r (Post.mb h fun a Ω1 v H1 G1 ι1 x1 w1 d1 h1=>?_)
 unfold gFld at h1
 cases a with
 | cel k =>
  simp only at h1
  cases e2:Ω1[k]? with
  | none=>rw [e2] at h1;exact h1.elim
  | some c =>
   rw [e2] at h1
   cases c with
   | ins cls fs =>
    simp only at h1
    by_cases hcl:cls ∈ cs
    ·rw [if_pos hcl] at h1
     cases e3:fs.lookup f with
     | none=>rw [e3] at h1;exact h1.elim
     | some fd =>
      rw [e3] at h1
      cases fd with
      | val b =>
       obtain ⟨a,C,dx,ws,rfl,ha,hg,h0,hH,hF⟩:=w1.ins e2 d1
       obtain ⟨C',q0,q1,q2⟩:=hc cls hcl
       rw [h0] at q0;cases q0
       obtain ⟨u,l,du⟩:=hF.look e3
       exact ⟨a,C,dx,ws,u,rfl,hH,q1,q2,l,h1 u H1 G1 ι1 (Ext.refl _ _) w1 du⟩
      | _=>exact h1.elim
    ·rw [if_neg hcl] at h1;exact h1.elim
   | _=>exact h1.elim
 | _=>exact h1.elim
theorem zhL (ho:VE X W o fo) (hv:VE X W value fv) (hc:zaW X.K cs f) (hs:swapsWith value (some (.Attribute o f pos')) pos.line X.env=pure false:=by rfl):VS X W (.Assign [.Attribute o f pos'] value pos) (zfC cs f fo fv):=by
 obtain ⟨t,p,s⟩:=ho
 obtain ⟨u,q,z⟩:=hv
 refine ⟨_,zm4 p q hs,fun G ι Ω H σ ρ D w r h=>?_⟩
 refine z G ι Ω H σ ρ _ w r (za9.sM h r fun b Ω1 y H1 G1 ι1 x1 w1 d1 h1=>?_)
 refine s G1 ι1 Ω1 H1 σ ρ _ w1 (r.ext x1) (za9.sM h1 (r.ext x1) fun a Ω2 v H2 G2 ι2 x2 w2 d2 h2=>?_)
 cases a with
 | cel k =>
  simp only at h2
  cases e2:Ω2[k]? with
  | none=>rw [e2] at h2;exact h2.elim
  | some c =>
   rw [e2] at h2
   cases c with
   | ins cls fs =>
    simp only at h2
    by_cases hcl:cls ∈ cs∧fs.length < 1000
    ·rw [if_pos hcl] at h2
     obtain ⟨a,C,dx,ws,rfl,ha,hg,h0,hH,hF⟩:=w2.ins e2 d2
     obtain ⟨C',q0,q1,q2⟩:=hc cls hcl.1
     rw [h0] at q0;cases q0
     refine ⟨a,C,dx,ws,rfl,hH,q1,q2,by rw [hF.len];exact hcl.2,?_⟩
     exact zgy (w2.setF e2 ha hg h0 hH hF (d1.ext x2)) ((r.ext x1).ext x2) h2
    ·rw [if_neg hcl] at h2;exact h2.elim
   | _=>exact h2.elim
 | _=>exact h2.elim
end
end V2
namespace L2
open PySem PySem.Spec PyProof.Rows
section
variable {X:Cx} {W:WX} {k:Nat} {f C:Addr} {fd:FuncData} {ps:List Str} {sp:Sp} {dvs:List V} {ds:List Value} {x m:Str} {p pos apos:Pos} {e o:Expr} {es:List Expr} {ta:TE} {t:TA}
theorem ziG {pins:List (Addr × Obj)} {σ:St} {H:Hp} {s:Shared} {Q:VK} {us:List Value} {vs:List V} (T:zde X W) (F:FnOk X.prog X.w X.K X.mg X.base (CXE X.prog X.w) k f fd ps sp) (hr:Room k X.A) (hb:Binds X.K fd ps ds) (hd:Vals dvs ds)
  (I:Inv X pins σ H s) (r:Vals vs us) (h:sp (vs ++ dvs) H Q fun cls dx H'=>W σ cls dx H'):wpAny (model X.prog X.w) X.A (call (.ref f) us) (EP X pins σ Q) X.xe s:=by
 have r2:Vals (vs ++ dvs) (us ++ ds):=r.append hd
 have hl:(us ++ ds).length=ps.length:=by rw [← r2.length];exact F.len _ _ _ _ h
 refine wpAny_call (codeAny_mono (F.run X.A X.stack s H ⟨us,[]⟩ (us ++ ds) (vs ++ dvs) Q _ hr I.env0 (hb s us I.kIn hl) r2 h) fun r s' hq=>?_)
 cases r with
 | error ev =>
  obtain ⟨a,cls,dx,H',rfl,os,bare,un,hok,ex,q'⟩:=hq
  have I2:=(I.zlX os un hok bare (fun b z=>absurd z (by simp))).zlx
  exact T.to _ _ ⟨σ,H',a,cls,dx,rfl,I2,(ex.first I T.ex).any,q'⟩
 | ok fl =>
  cases fl with
  | ret u=>exact I.after hq
  | next=>exact False.elim hq
  | brk=>exact False.elim hq
  | cont=>exact False.elim hq
def ziI (X:Cx) (W:WX) (m:Str) (ta:TE) (t:TA):TE:=fun σ H Q=>ta σ H fun x H1=>∃ a C dx fs k f fd ps ds dvs sp,x = .ref a∧H1 a=some (.ins C dx fs)∧fs.lookup m=none∧Cls X.K C∧Meth X.K C m f ∧
 FnOk X.prog X.w X.K X.mg X.base (CXE X.prog X.w) k f fd ps sp∧Room k X.A∧Binds X.K fd ps ds∧Vals dvs ds∧t σ H1 fun vs H2=>sp (.ref a :: vs ++ dvs) H2 Q fun cls dx H'=>W σ cls dx H'
theorem zku {pl:Sem Bool} (T:zde X W) (he:PE X o ta) (ha:PA X (e :: es) t)
  (hst:starEach (e :: es) X.env=(false,eval e X.env) :: starEach es X.env:=by rfl) (hpl:(backTo pos (starEach es X.env)).any (·.1)=false:=by rfl)
  (ht:eval (.Call (.Attribute o m apos) (e :: es) [] pos) X.env=(do
   let ov ← eval o X.env
   standAt apos.atName
   let (f,first) ← holding [ov] (getMethod ov m pl)
   callWith pos f first (backTo pos (starEach (e :: es) X.env)) (backToKw pos (keywordEach [] X.env))):=by rfl) :
  PE X (.Call (.Attribute o m apos) (e :: es) [] pos) (ziI X W m ta t):=by
 intro pins s σ H Q I h
 refine PySem.W.methodCall_KW (pl:=pl) (thn (he pins s σ H _ I h) fun u s1 ⟨x,H1,I1,rx,a,C,dx,fs,k,f,fd,ps,ds,dvs,sp,ex,ea,l,c,hm,F,hr,hb,hd,q⟩=>?_) ht
 subst ex
 obtain rfl:u=Value.ref a:=rx
 refine zfg I1 ea c hm l ?_
 refine PySem.W.callWith_K (first:=[.ref a]) (h₀:=X.base) I.ok.mod.kin hm.kp (thn (ha pos pins s1 σ H1 _ I1 q) fun us s2 ⟨vs,H2,I2,r,q2⟩=>⟨I2.kIn,?_⟩) hst hpl
 exact ziG (us := .ref a :: us) (vs := .ref a :: vs) T F hr hb hd I2 (.cons rfl r) q2
theorem ziN {pl:Sem Bool} (T:zde X W) (he:PE X o ta)
  (ht:eval (.Call (.Attribute o m apos) [] [] pos) X.env=(do
   let ov ← eval o X.env
   standAt apos.atName
   let (f,first) ← holding [ov] (getMethod ov m pl)
   callWith pos f first (backTo pos (starEach [] X.env)) (backToKw pos (keywordEach [] X.env))):=by rfl) :
  PE X (.Call (.Attribute o m apos) [] [] pos) (ziI X W m ta tNil):=by
 intro pins s σ H Q I h
 refine PySem.W.methodCall_KW (pl:=pl) (thn (he pins s σ H _ I h) fun u s1 ⟨x,H1,I1,rx,a,C,dx,fs,k,f,fd,ps,ds,dvs,sp,ex,ea,l,c,hm,F,hr,hb,hd,q⟩=>?_) ht
 subst ex
 obtain rfl:u=Value.ref a:=rx
 refine zfg I1 ea c hm l ?_
 exact PySem.W.callWith_K0 (first:=[.ref a]) I1.kIn hm.kp (ziG (us:=[.ref a]) (vs:=[.ref a]) T F hr hb hd I1 (.cons rfl .nil) q)
structure znl (K:PySem.W.Frag) (R:Addr) (m:Str) (f:Addr):Prop where
 reads:PySem.W.readsIn K R (.type "type")=true
 find:PySem.W.findCls K (.ref R) (.type "type") m=some (.val (.ref f))
 ga:PySem.W.specialIn K (.ref R) "__getattribute__" = some (some (.builtin "type.__getattribute__"))
 kp:PySem.W.keepIn K (.ref f)=true
end
end L2
namespace V2
open PySem PySem.Spec PyProof.Rows L2
@[simp] def zba (n:Nat) (das:List A) (F:List A→Mo A):List A→Mo A:=fun as=>if as.length + das.length=n then F (as ++ das) else stuck
structure zcc (P:Program) (w:World) (K:PySem.W.Frag) (mg:Str→Option Value) (base:Heap) (cls m:Str) (k:Nat) (n:Nat) (das:List A) (F:List A→Mo A):Prop where
 ex:∃ C f fd ps ds dvs,PySem.W.nsIn K mainGlobals cls=some (some (.ref C))∧Cls K C∧Meth K C m f∧ps.length=n∧FnOk P w K mg base (CXE P w) k f fd ps (spV K ps.length F)∧Binds K fd ps ds∧Vals dvs ds∧∀ G ι,DenL K G ι dvs das
@[simp] def zne (m:Str) (tab:List (Str × (List A→Mo A))) (fs:Mo (List A)) (a:A):Mo A:=fun Ω=>match a with
 | .cel s=>match Ω[s]? with
  | some (.ins cls fs0)=>match tab.lookup cls,fs0.lookup m with
   | some F,none=>mb fs (fun as=>F (.cel s :: as)) Ω
   | _,_=>none
  | _=>none
 | _=>none
@[simp] def zcg (m:Str) (tab:List (Str × (List A→Mo A))) (fo:Ev→Mo A) (fs:Ev→Mo (List A)):Ev→Mo A:=fun ρ=>mb (fo ρ) (zne m tab (fs ρ))
def TabM (X:Cx) (m:Str) (tab:List (Str × (List A→Mo A))):Prop:=∀ cls F,tab.lookup cls=some F→∃ k n das F0,F=zba n das F0∧Room k X.A∧zcc X.prog X.w X.K X.mg X.base cls m k n das F0
section
variable {X:Cx} {W:WX} {m:Str} {tab:List (Str × (List A→Mo A))} {o e:Expr} {es:List Expr} {fo:Ev→Mo A} {fs:Ev→Mo (List A)} {pos apos:Pos}
theorem TabM.nil:TabM X m []:=fun cls F h=>by simp at h
theorem TabM.cons {cls:Str} {k n:Nat} {das:List A} {F:List A→Mo A} (h:zcc X.prog X.w X.K X.mg X.base cls m k n das F) (hr:Room k X.A) (t:TabM X m tab):TabM X m ((cls,zba n das F) :: tab):=fun c F' q=>by
 by_cases e:c=cls
 ·subst e
  simp [List.lookup] at q
  exact ⟨k,n,das,F,q.symm,hr,h⟩
 ·have hb:(c == cls)=false:=beq_eq_false_iff_ne.mpr e
  simp only [List.lookup,hb] at q
  exact t c F' q
theorem zhn {ta:TE} {t:TA} (htab:TabM X m tab) (s1:Sim X.K (Den X.K) W ta fo) (s2:Sim X.K (DenL X.K) W t fs):Sim X.K (Den X.K) W (ziI X W m ta t) (zcg m tab fo fs):=by
 intro G ι Ω H σ ρ Q w r h
 refine s1 G ι Ω H σ ρ _ w r (Post.mb h fun a Ω1 v H1 G1 ι1 x1 w1 d1 h1=>?_)
 unfold zne at h1
 cases a with
 | cel s =>
  simp only at h1
  cases e2:Ω1[s]? with
  | none=>rw [e2] at h1;exact h1.elim
  | some c =>
   rw [e2] at h1
   cases c with
   | ins cls fs0 =>
    simp only at h1
    cases e3:tab.lookup cls with
    | none=>rw [e3] at h1;exact h1.elim
    | some F =>
     rw [e3] at h1
     cases e4:fs0.lookup m with
     | some _=>rw [e4] at h1;exact h1.elim
     | none =>
      rw [e4] at h1
      obtain ⟨k,n,das,F0,rfl,hr,MV⟩:=htab cls F e3
      obtain ⟨C,f,fd,ps,ds,dvs,hC,hcl,hme,hn,FO,hb,hv,hda⟩:=MV.ex
      obtain ⟨a,C',dx,ws,rfl,ha,hg,h0,hH,hF⟩:=w1.ins e2 d1
      rw [hC] at h0;cases h0
      refine ⟨a,C,dx,ws,k,f,fd,ps,ds,dvs,_,rfl,hH,hF.zmU e4,hcl,hme,FO,hr,hb,hv,?_⟩
      refine s2 G1 ι1 Ω1 H1 σ ρ _ w1 (r.ext x1) (Post.mb h1 fun as Ω2 vs H2 G2 ι2 x2 w2 d2 h2=>?_)
      unfold zba at h2
      split at h2
      ·rename_i hl
       have dd:DenL X.K G2 ι2 (.ref a :: vs ++ dvs) (.cel s :: as ++ das):=(DenL.cons (by simp only [Den] at d1 ⊢;obtain ⟨a2,e5,e6⟩:=d1;exact ⟨a2,e5,x2.pre _ _ e6⟩) d2).append (hda _ _)
       refine ⟨?_,G2,ι2,Ω2, .cel s :: as ++ das,w2,dd,zgI h2 (Ext.refl _ _)⟩
       have:=dd.length
       rw [this,hn]
       simp only [List.length_append,List.length_cons] at hl ⊢
       omega
      ·exact h2.elim
   | _=>exact h1.elim
 | _=>exact h1.elim
theorem zdL {pl:Sem Bool} (T:zde X W) (htab:TabM X m tab) (ho:VE X W o fo) (ha:VA X W (e :: es) fs)
  (hst:starEach (e :: es) X.env=(false,eval e X.env) :: starEach es X.env:=by rfl) (hpl:(backTo pos (starEach es X.env)).any (·.1)=false:=by rfl)
  (ht:eval (.Call (.Attribute o m apos) (e :: es) [] pos) X.env=(do
   let ov ← eval o X.env
   standAt apos.atName
   let (f,first) ← holding [ov] (getMethod ov m pl)
   callWith pos f first (backTo pos (starEach (e :: es) X.env)) (backToKw pos (keywordEach [] X.env))):=by rfl) :
  VE X W (.Call (.Attribute o m apos) (e :: es) [] pos) (zcg m tab fo fs):=by
 obtain ⟨ta,p1,s1⟩:=ho
 obtain ⟨t,p2,s2⟩:=ha
 exact ⟨_,zku T p1 p2 hst hpl ht,zhn htab s1 s2⟩
theorem zem {pl:Sem Bool} (T:zde X W) (htab:TabM X m tab) (ho:VE X W o fo)
  (ht:eval (.Call (.Attribute o m apos) [] [] pos) X.env=(do
   let ov ← eval o X.env
   standAt apos.atName
   let (f,first) ← holding [ov] (getMethod ov m pl)
   callWith pos f first (backTo pos (starEach [] X.env)) (backToKw pos (keywordEach [] X.env))):=by rfl) :
  VE X W (.Call (.Attribute o m apos) [] [] pos) (zcg m tab fo a0):=by
 obtain ⟨ta,p1,s1⟩:=ho
 refine ⟨_,ziN T p1 ht,zhn htab s1 ?_⟩
 intro G ι Ω H σ ρ Q w r h
 exact h [] H G ι (Ext.refl _ _) w .nil
structure zhR (P:Program) (w:World) (K:PySem.W.Frag) (mg:Str→Option Value) (base:Heap) (cls:Str) (k:Nat) (n:Nat) (F:List A→Mo A):Prop where
 ex:∃ C f fd ps,PySem.W.nsIn K mainGlobals cls=some (some (.ref C))∧mg cls=some (.ref C)∧Mk K C f∧ps.length=n∧FnOk P w K mg base (CXE P w) k f fd ps (spV K ps.length F)∧Binds K fd ps []
@[simp] def zg8 (cls:Str) (n:Nat) (F:List A→Mo A) (as:List A):Mo A:=fun Ω=>if as.length + 1=n then match F (.cel Ω.length :: as) (Ω ++ [.ins cls []]) with
 | some (.ok .non,Ω2)=>some (.ok (.cel Ω.length),Ω2)
 | _=>none else none
theorem zl4 {cls:Str} {k n:Nat} {F:List A→Mo A} {p:Pos} (M:zhR X.prog X.w X.K X.mg X.base cls k n F) (hr:Room (k + 1) X.A) (hg:Gl X cls) (ha:VA X W (e :: es) fs)
  (hdb:(cls == ("__debug__" : Str))=false:=by decide) (he:starEach (e :: es) X.env=(false,eval e X.env) :: starEach es X.env:=by rfl) (hpl:(backTo pos (starEach es X.env)).any (·.1)=false:=by rfl) :
  VE X W (.Call (.Name cls p) (e :: es) [] pos) (vCl (zg8 cls n F) fs):=by
 obtain ⟨C,f,fd,ps,hC,hm,mk,hn,FO,hb⟩:=M.ex
 obtain ⟨t,p1,s1⟩:=ha
 refine ⟨_,zlQ mk (zg3 FO) hr hg hm hb .nil znd p1 hdb he hpl,fun G ι Ω H σ ρ Q w r h=>?_⟩
 refine s1 G ι Ω H σ ρ _ w r (Post.mb h fun as Ω1 vs H1 G1 ι1 x1 w1 d1 h1=>?_)
 unfold zg8 at h1
 by_cases hl:as.length + 1=n
 ·rw [if_pos hl] at h1
  intro x dx hx hdx hne
  have wA:=w1.grow (H':=upd H1 dx (.own x)) (Same.new hdx)
  have hx':upd H1 dx (.own x) x=none:=by rw [zao (Ne.symm hne)];exact hx
  have wB:Wd X.K G1 (ι1 ++ [x]) (Ω1 ++ [.ins cls []]) (upd (upd H1 dx (.own x)) x (.ins C dx [])):=wA.cell hx' ⟨w1.zfG hx,C,dx,[],hC,zaw,trivial⟩
  have dx':DenL X.K G1 (ι1 ++ [x]) (.ref x :: (vs ++ [])) (.cel Ω1.length :: as) := .cons (by simp only [Den];exact ⟨x,rfl,by rw [← w1.len];simp⟩) (by rw [List.append_nil];exact d1.ext (Ext.cell x))
  refine ⟨by rw [dx'.length,hn];simpa using hl,G1,ι1 ++ [x],_,_,wB,dx',?_⟩
  revert h1
  generalize F (.cel Ω1.length :: as) (Ω1 ++ [.ins cls []])=q
  intro h1
  match q,h1 with
  | some (.ok .non,Ω2),h1 =>
   intro v H' G' ι' e' w' d'
   simp only [Den] at d'
   subst d'
   refine ⟨rfl,h1 (.ref x) H' G' ι' ⟨e'.same,fun k a q=>e'.pre k a (by rw [List.getElem?_append_left (List.getElem?_eq_some_iff.mp q).1];exact q)⟩ w' ?_⟩
   simp only [Den]
   exact ⟨x,rfl,e'.pre _ _ (by rw [← w1.len];simp)⟩
 ·rw [if_neg hl] at h1;exact h1.elim
structure zjF (P:Program) (w:World) (K:PySem.W.Frag) (mg:Str→Option Value) (base:Heap) (rk m:Str) (k:Nat) (n:Nat) (F:List A→Mo A):Prop where
 ex:∃ R f fd ps,mg rk=some (.ref R)∧znl K R m f∧ps.length=n∧FnOk P w K mg base (CXE P w) k f fd ps (spV K ps.length F)∧Binds K fd ps []
end
end V2
namespace V2
open PySem PySem.Spec PyProof.Rows L2
def ownF (cs:List Str) (i:Nat) (f:Str) (ρ:Ev) (Ω:Sto):Option (Nat × Str × List (Str × Fd) × Fd):=match (ρ[i]?).join with
 | some (.cel s)=>match Ω[s]? with
  | some (.ins cls fs)=>if cls ∈ cs then (fs.lookup f).map fun fd=>(s,cls,fs,fd) else none
  | _=>none
 | _=>none
abbrev lent (Ω:Sto) (s:Nat) (cls f:Str) (fs:List (Str × Fd)) (c:Cell):Sto:=Ω.set s (.ins cls (putD f (.val (.cel Ω.length)) fs)) ++ [c]
section
variable {cs:List Str} {i:Nat} {f:Str} {ρ:Ev} {Ω:Sto} {s:Nat} {cls:Str} {fs:List (Str × Fd)} {fd fd':Fd} {c c':Cell}
theorem zc9 (h:ownF cs i f ρ Ω=some (s,cls,fs,fd)):ρ[i]? = some (some (.cel s))∧Ω[s]? = some (.ins cls fs)∧cls ∈ cs∧fs.lookup f=some fd:=by
 unfold ownF at h
 cases e1:(ρ[i]?).join with
 | none=>rw [e1] at h;cases h
 | some d =>
  rw [e1] at h
  cases d with
  | cel k =>
   simp only at h
   cases e2:Ω[k]? with
   | none=>rw [e2] at h;cases h
   | some c =>
    rw [e2] at h
    cases c with
    | ins cls' fs' =>
     simp only at h
     by_cases hc:cls' ∈ cs
     ·rw [if_pos hc] at h
      cases e3:fs'.lookup f with
      | none=>rw [e3] at h;cases h
      | some x =>
       rw [e3] at h
       cases h
       exact ⟨join_some e1,e2,hc,e3⟩
     ·rw [if_neg hc] at h;cases h
    | _=>cases h
  | _=>cases h
theorem zml (h1:ρ[i]? = some (some (.cel s))) (h2:Ω[s]? = some (.ins cls fs)) (h3:cls ∈ cs) (h4:fs.lookup f=some fd):ownF cs i f ρ Ω=some (s,cls,fs,fd):=by
 unfold ownF
 rw [h1]
 simp [h2,h3,h4]
theorem zjp (h:ownF cs i f ρ Ω=some (s,cls,fs,fd)) (hc:fd.cell=some c):Unf s f Ω (lent Ω s cls f fs c):=by
 obtain ⟨h1,h2,h3,h4⟩:=zc9 h
 exact ⟨cls,fs,fd,c,h2,h4,hc,rfl⟩
theorem zdv {n:Nat} {f:Str} {fd:Fd}:∀ {fs:List (Str × Fd)},ClFs n fs→ClF n fd→ClFs n (putD f fd fs)
 | [],_,h=>⟨h,trivial⟩
 | (g,x) :: r,c,h=>by
  by_cases e:g=f
  ·simp only [putD,if_pos e];exact ⟨h,c.2⟩
  ·simp only [putD,if_neg e];exact ⟨c.1,zdv c.2 h⟩
theorem zhu (cl:ClS Ω ρ) (h:ownF cs i f ρ Ω=some (s,cls,fs,fd)) (hc:fd'.cell=some c') (hn:ClF Ω.length fd'):Folds s f Ω.length (lent Ω s cls f fs c') (Ω.set s (.ins cls (putD f fd' fs))):=by
 obtain ⟨h1,h2,h3,h4⟩:=zc9 h
 have hs:s < Ω.length:=(List.getElem?_eq_some_iff.mp h2).1
 refine ⟨Ω.set s (.ins cls (putD f (.val (.cel Ω.length)) fs)),c',cls,putD f (.val (.cel Ω.length)) fs,fd',rfl,by simp,List.getElem?_set_self hs,?_,hc,fun k x hk hx=>?_,?_,?_⟩
 ·rw [zbg,if_pos rfl]
 ·rw [List.getElem?_set_ne (Ne.symm hk)] at hx
  exact cl.cel k x hx
 ·rw [zbo]
  have:=cl.cel s _ h2
  exact zdv this hn
 ·rw [zbo,List.set_set]
theorem zfq (cl:ClS Ω ρ) (h:ownF cs i f ρ Ω=some (s,cls,fs,fd)) (hc:fd.cell=some c):Folds s f Ω.length (lent Ω s cls f fs c) Ω:=by
 obtain ⟨h1,h2,h3,h4⟩:=zc9 h
 obtain ⟨j,e1,_⟩:=zdA h4
 have hn:ClF Ω.length fd:=(cl.cel s _ h2:ClFs _ fs).get e1
 have:=zhu cl h hc hn
 rw [zf8 h4] at this
 have e:Ω.set s (.ins cls fs)=Ω:=by
  apply List.ext_getElem?
  intro j
  by_cases hj:s=j
  ·subst hj
   rw [List.getElem?_set_self (List.getElem?_eq_some_iff.mp h2).1,h2]
  ·rw [List.getElem?_set_ne hj]
 rwa [e] at this
theorem zgV (h:ownF cs i f ρ Ω=some (s,cls,fs,fd)):(lent Ω s cls f fs c)[Ω.length]? = some c:=by
 rw [List.getElem?_append_right (by simp)];simp
theorem zfU (h:ownF cs i f ρ Ω=some (s,cls,fs,fd)):vFld cs f (vVar i) ρ (lent Ω s cls f fs c)=some (.ok (.cel Ω.length),lent Ω s cls f fs c):=by
 obtain ⟨h1,h2,h3,h4⟩:=zc9 h
 have hs:s < Ω.length:=(List.getElem?_eq_some_iff.mp h2).1
 have e:(lent Ω s cls f fs c)[s]? = some (.ins cls (putD f (.val (.cel Ω.length)) fs)):=by
  rw [List.getElem?_append_left (by simpa using hs),List.getElem?_set_self hs]
 have l:(putD f (Fd.val (.cel Ω.length)) fs).lookup f=some (.val (.cel Ω.length)):=by rw [zbg,if_pos rfl]
 have h1':(ρ[i]?).join=some (.cel s):=by rw [h1];rfl
 simp only [vFld,vVar,need,mb,h1',Option.map_some,gFld,e,if_pos h3,l]
theorem zjy (c2:Cell):(lent Ω s cls f fs c).set Ω.length c2=lent Ω s cls f fs c2:=by
 unfold lent
 rw [List.set_append_right _ _ (by simp)];simp
theorem zkf {α β:Type} {m:Mo α} {k:α→Mo β} {Ω Ω1:Sto} {a:α} (h:m Ω=some (.ok a,Ω1)):mb m k Ω=k a Ω1:=by simp [mb,h]
theorem znp {α:Type} {m:Mo α} {k:α→Sto→OS} {ρ:Ev} {Ω Ω1:Sto} {a:α} (h:m Ω=some (.ok a,Ω1)):sM m ρ k Ω=k a Ω1:=by simp [sM,h]
end
def zl2 (fe:Ev→Mo A):Prop:=∀ ρ Ω Ω' r,fe ρ Ω=some r→∃ a,r=(.ok a,Ω)∧fe ρ Ω'=some (.ok a,Ω')∧(ClS Ω ρ→Cl Ω.length a)
theorem zhs (j:Nat):zl2 (vVar j):=fun ρ Ω Ω' r h=>by
 simp only [vVar,need] at h ⊢
 cases e:(ρ[j]?).join with
 | none=>rw [e] at h;cases h
 | some a=>rw [e] at h;cases h;exact ⟨a,rfl,rfl,fun c=>c.env j a (join_some e)⟩
@[simp] def zhb (cs:List Str) (i:Nat) (f:Str):Ev→Mo A:=fun ρ Ω=>match ownF cs i f ρ Ω with
 | some (_,_,_, .lst ds)=>some (.ok (.int ds.length),Ω)
 | _=>none
@[simp] def vFIx (cs:List Str) (i:Nat) (f:Str) (fi:Ev→Mo A):Ev→Mo A:=fun ρ Ω=>match ownF cs i f ρ Ω with
 | some (_,_,_, .lst ds)=>match fi ρ Ω with
  | some (.ok (.int n),_)=>match atI ds n with
   | some d=>some (.ok d,Ω)
   | none=>none
  | _=>none
 | _=>none
@[simp] def zjT (cs:List Str) (i:Nat) (f:Str) (fi:Ev→Mo A):A→MS:=fun a ρ Ω=>match ownF cs i f ρ Ω with
 | some (s,cls,fs, .lst ds)=>match fi ρ Ω with
  | some (.ok (.int n),_)=>match ixN ds.length n with
   | some j=>some (.nx,ρ,Ω.set s (.ins cls (putD f (.lst (ds.set j a)) fs)))
   | none=>none
  | _=>none
 | _=>none
theorem ziv {n:Nat}:∀ {ds:List A} {i:Nat} {d:A},ClL n ds→ds[i]? = some d→Cl n d
 | [],_,_,_,h=>by simp at h
 | _ :: _,0,_,c,h=>by simp at h;subst h;exact c.1
 | _ :: ds,i + 1,_,c,h=>ziv (ds:=ds) c.2 (by simpa using h)
theorem ziZ {n:Nat} {a:A} (ha:Cl n a):∀ {ds:List A} (j:Nat),ClL n ds→ClL n (ds.set j a)
 | [],_,_=>trivial
 | _ :: _,0,c=>⟨ha,c.2⟩
 | _ :: ds,j + 1,c=>⟨c.1,ziZ ha j c.2⟩
theorem zjg {n:Nat}:∀ {ds es:List A},ClL n ds→ClL n es→ClL n (ds ++ es)
 | [],_,_,h=>h
 | _ :: _,_,c,h=>⟨c.1,zjg c.2 h⟩
theorem zkU {cs:List Str} {i:Nat} {f:Str} {ρ:Ev} {Ω:Sto} {s:Nat} {cls:Str} {fs:List (Str × Fd)} {fd:Fd} (cl:ClS Ω ρ) (h:ownF cs i f ρ Ω=some (s,cls,fs,fd)):ClF Ω.length fd:=by
 obtain ⟨h1,h2,h3,h4⟩:=zc9 h
 obtain ⟨j,e1,_⟩:=zdA h4
 exact (cl.cel s _ h2:ClFs _ fs).get e1
section
variable {X:Cx} {W:WX} {e e1 o tg:Expr} {f:Str} {cs:List Str} {i:Nat} {pos pos' apos fpos:Pos} {fe fi:Ev→Mo A}
theorem zl1 (h:VE X W e (vCl gLen (zac (vFld cs f (vVar i)) a0))):VE X W e (zhb cs i f):=by
 refine zju h fun ρ Ω r cl hd=>?_
 unfold zhb at hd
 split at hd
 ·rename_i s cls fs ds eo
  cases hd
  refine ⟨s,f,_, .int ds.length,_,zjp eo rfl,?_,zfq cl eo rfl,by simp only [Cl],rfl⟩
  have q:=zfU (c := .lst ds) eo
  have l:zar (lent Ω s cls f fs (.lst ds)) (.cel Ω.length)=some ds:=zaE (zgV eo)
  have l2:za7 (lent Ω s cls f fs (.lst ds)) (.cel Ω.length)=some ds:=l
  show mb (mb (vFld cs f (vVar i) ρ) fun x=>mb (a0 ρ) fun xs=>ret (x :: xs)) gLen _=_
  rw [zkf (a:=[A.cel Ω.length]) (Ω1:=lent Ω s cls f fs (.lst ds)) (by rw [zkf q];rfl)]
  simp [gLen,l,l2]
 ·cases hd
theorem zm9 (h:VE X W e (vOp gIx (vFld cs f (vVar i)) fi)) (hp:zl2 fi):VE X W e (vFIx cs i f fi):=by
 refine zju h fun ρ Ω r cl hd=>?_
 unfold vFIx at hd
 split at hd
 ·rename_i s cls fs ds eo
  split at hd
  ·rename_i n Ω' e2
   split at hd
   ·rename_i d e3
    cases hd
    obtain ⟨a,q1,q2,_⟩:=hp ρ Ω (lent Ω s cls f fs (.lst ds)) _ e2
    cases q1
    have hc:Cl Ω.length d:=by
     unfold atI at e3
     cases e4:ixN ds.length n with
     | none=>rw [e4] at e3;cases e3
     | some k=>rw [e4] at e3;exact ziv (zkU cl eo:ClL _ ds) e3
    refine ⟨s,f,_,d,_,zjp eo rfl,?_,zfq cl eo rfl,hc,rfl⟩
    have q:=zfU (c := .lst ds) eo
    have l:za7 (lent Ω s cls f fs (.lst ds)) (.cel Ω.length)=some ds:=zaE (zgV eo)
    simp only [vOp]
    rw [zkf q,zkf q2]
    simp [gIx,l,e3]
   ·cases hd
  ·cases hd
 ·cases hd
theorem zlN (h:VG X W tg (zlH (vFld cs f (vVar i)) fi)) (hp:zl2 fi):VG X W tg (zjT cs i f fi):=by
 refine zk5 h fun a ρ Ω r cl ca hd=>?_
 unfold zjT at hd
 split at hd
 ·rename_i s cls fs ds eo
  split at hd
  ·rename_i n Ω' e2
   split at hd
   ·rename_i j e3
    cases hd
    obtain ⟨b,q1,q2,_⟩:=hp ρ Ω (lent Ω s cls f fs (.lst ds)) _ e2
    cases q1
    refine ⟨s,f,_,lent Ω s cls f fs (.lst (ds.set j a)),zjp eo rfl,?_,zhu cl eo rfl (ziZ ca j (zkU cl eo)),fun k d hk=>cl.env k d hk,rfl⟩
    have q:=zfU (c := .lst ds) eo
    have l:(lent Ω s cls f fs (.lst ds))[Ω.length]? = some (.lst ds):=zgV eo
    simp only [zlH]
    rw [znp q,znp q2]
    simp only [setCell,l,e3,zjy]
   ·cases hd
  ·cases hd
 ·cases hd
end
def zdt (Ω:Sto):A→Option (List A)
 | .lst ds=>some ds
 | .cel k=>match Ω[k]? with
  | some (.lst ds)=>some ds
  | _=>none
 | _=>none
theorem zh7 {K:PySem.W.Frag} {G H:Hp} {ι:List Addr} {Ω:Sto} {v:V} {a:A} {ds:List A} (w:Wd K G ι Ω H) (d:Den K G ι v a) (h:zdt Ω a=some ds):∃ p xs,v = .ref p∧H p=some (.lst xs)∧DenL K G ι xs ds:=by
 cases a with
 | lst es =>
  simp only [zdt,Option.some.injEq] at h;subst h
  simp only [Den] at d
  obtain ⟨p,xs,rfl,h2,h3⟩:=d
  exact ⟨p,xs,rfl,w.sub _ _ h2,h3⟩
 | cel j =>
  simp only [zdt] at h
  split at h
  ·rename_i es e
   cases h
   simp only [Den] at d
   obtain ⟨p,rfl,hk⟩:=d
   obtain ⟨g,xs,h3,h4⟩:=w.cel j _ p e hk
   exact ⟨p,xs,rfl,h3,h4⟩
  ·cases h
 | _=>simp [zdt] at h
@[simp] def zg9 (o:A) (as:List A):Mo A:=fun Ω=>match zfb Ω o,as with
 | some (k,ds),[y]=>match zdt Ω y with
  | some es=>if ds.length + es.length ≤ sizeLine then some (.ok .non,Ω.set k (.lst (ds ++ es))) else none
  | none=>none
 | _,_=>none
theorem zjE {X:Cx} {W:WX}:MtV X.K W ziX zg9:=by
 intro G ι Ω H σ x xs a as Q w d1 d2 h
 unfold zg9 at h
 split at h
 ·rename_i k ds y e
  split at h
  ·rename_i es e2
   split at h
   ·rename_i hl
    obtain ⟨p,zs,rfl,hk,g,h3,h4⟩:=zht w d1 e
    obtain ⟨u,rfl,du⟩:=den1 d2
    obtain ⟨p2,ys,rfl,h5,h6⟩:=zh7 w du e2
    refine ⟨p,p2,zs,ys,rfl,rfl,h3,h5,by rw [h4.length,h6.length];exact hl,?_⟩
    exact h _ _ G ι (Ext.refl _ _) (w.put (c := .lst (ds ++ es)) hk g ⟨g,_,zaw,h4.append h6⟩) (by simp only [Den])
   ·exact False.elim h
  ·exact False.elim h
 ·exact False.elim h
theorem Wd.putO {K:PySem.W.Frag} {G H:Hp} {ι:List Addr} {Ω:Sto} {s:Nat} {cls f:Str} {fs:List (Str × Fd)} {fd fd':Fd} {c c':Cell} {o:HO} {a b C dx:Addr} {ws:List (Str × V)} (w:Wd K G ι Ω H) (hs:Ω[s]? = some (.ins cls fs)) (ha:ι[s]? = some a)
  (hH:H a=some (.ins C dx ws)) (hf:fs.lookup f=some fd) (hc:fd.cell=some c) (hl:ws.lookup f=some (.ref b)) (hc':fd'.cell=some c') (hok:zcl K G (ι ++ [b]) (upd H b o) b c') (hcl:ClF Ω.length fd'):Wd K G ι (Ω.set s (.ins cls (putD f fd' fs))) (upd H b o):=by
 have hsl:s < Ω.length:=(List.getElem?_eq_some_iff.mp hs).1
 have cl:ClS Ω []:=w.clS (σ:=[]) ⟨rfl,fun i d h=>by simp at h⟩
 obtain ⟨b',wb⟩:=w.unfold hs hf hc
 have e1:(Ω.set s (.ins cls (putD f (.val (.cel Ω.length)) fs)) ++ [c])[s]? = some (.ins cls (putD f (.val (.cel Ω.length)) fs)):=by
  rw [List.getElem?_append_left (by simpa using hsl),List.getElem?_set_self hsl]
 have e2:(ι ++ [b'])[s]? = some a:=by rw [List.getElem?_append_left (by rw [w.len];exact hsl)];exact ha
 obtain ⟨_,C1,dx1,ws1,_,z1,z2⟩:=wb.cel s _ a e1 e2
 rw [hH] at z1;cases z1
 obtain ⟨v,y1,y2⟩:=z2.look (f:=f) (fd := .val (.cel Ω.length)) (by rw [zbg,if_pos rfl])
 rw [hl] at y1;cases y1
 simp only [FdOk,Den] at y2
 obtain ⟨b2,y3,y4⟩:=y2
 cases y3
 have e3:(ι ++ [b'])[Ω.length]? = some b':=by rw [← w.len];simp
 rw [e3] at y4;cases y4
 have gb:G b=none:=by
  have q:=wb.cel Ω.length c b (by rw [List.getElem?_append_right (by simp)];simp) e3
  cases fd with
  | val x=>cases hc
  | lst ds=>cases hc;exact q.1
  | dct kvs=>cases hc;exact q.1
 have wp:=wb.put (k:=Ω.length) (c:=c') (o:=o) e3 gb hok (Fd.zfl hc')
 have e4:(Ω.set s (.ins cls (putD f (.val (.cel Ω.length)) fs)) ++ [c]).set Ω.length c'=Ω.set s (.ins cls (putD f (.val (.cel Ω.length)) fs)) ++ [c']:=by
  rw [List.set_append_right _ _ (by simp)];simp
 rw [e4] at wp
 have wf:=wp.fold (s:=s) (f:=f) (fd:=fd') (cls:=cls) (fs:=putD f (.val (.cel Ω.length)) fs) (List.getElem?_set_self hsl) (by rw [zbg,if_pos rfl];simp) hc' (fun k x hk hx=>by
  rw [List.getElem?_set_ne (Ne.symm hk)] at hx
  have:=cl.cel k x hx
  simpa using this) (by
  rw [zbo]
  have:=zdv (f:=f) (cl.cel s _ hs:ClFs _ fs) hcl
  simpa using this)
 rw [zbo,List.set_set] at wf
 have e5:(ι ++ [b]).take (Ω.set s (.ins cls (putD f (.val (.cel Ω.length)) fs))).length=ι:=by
  rw [List.length_set,← w.len];simp
 rwa [e5] at wf
@[simp] def zgx (cs:List Str) (i:Nat) (f:Str):Ev→Mo A:=fun ρ Ω=>match ownF cs i f ρ Ω with
 | some (s,cls,fs, .lst ds)=>if ds.length < sizeLine then some (.ok .non,Ω.set s (.ins cls (putD f (.lst (ds ++ [.cel Ω.length])) fs)) ++ [.lst []]) else none
 | _=>none
def zgb (i:Nat) (f:Str) (g:MS) (ρ:Ev) (Ω:Sto) (r:Out × Ev × Sto):Prop :=
 ∃ s cls fs fd c Ωa fd' c',ρ[i]? = some (some (.cel s))∧Ω[s]? = some (.ins cls fs)∧fs.lookup f=some fd∧fd.cell=some c∧g ρ (lent Ω s cls f fs c)=some (.nx,r.2.1,Ωa ++ [c'])∧Ωa.length=Ω.length ∧
  Ωa[s]? = some (.ins cls (putD f (.val (.cel Ω.length)) fs))∧fd'.cell=some c'∧(∀ (k:Nat) (x:Cell),k ≠ s→Ωa[k]? = some x→Ω[k]? = some x∨ClC Ω.length x)∧(fd'=fd∨ClF Ω.length fd') ∧
  (∀ (j:Nat) (d:A),r.2.1[j]? = some (some d)→ρ[j]? = some (some d)∨Cl Ω.length d)∧r.1 = .nx∧r.2.2=Ωa.set s (.ins cls (putD f fd' fs))
open Classical in
noncomputable def ziL (i:Nat) (f:Str) (g:MS):MS:=fun ρ Ω=>if h:∃ r,zgb i f g ρ Ω r then some (Classical.choose h) else none
theorem zka {a b:Fd} {c:Cell} (h1:a.cell=some c) (h2:b.cell=some c):a=b:=by
 cases a with
 | val x=>cases h1
 | lst ds=>cases b with
  | lst es=>cases h1;cases h2;rfl
  | val _=>cases h2
  | dct _=>cases h1;cases h2
 | dct kvs=>cases b with
  | dct es=>cases h1;cases h2;rfl
  | val _=>cases h2
  | lst _=>cases h1;cases h2
theorem zgb.uniq {i:Nat} {f:Str} {g:MS} {ρ:Ev} {Ω:Sto} {r r':Out × Ev × Sto} (h:zgb i f g ρ Ω r) (h':zgb i f g ρ Ω r'):r=r':=by
 obtain ⟨s,cls,fs,fd,c,Ωa,fd1,c1,a1,a2,a3,a4,a5,a6,a7,a8,a9,a10,a11,a12,a13⟩:=h
 obtain ⟨s',cls',fs',fd',c',Ωb,fd2,c2,b1,b2,b3,b4,b5,b6,b7,b8,b9,b10,b11,b12,b13⟩:=h'
 rw [a1] at b1;cases b1
 rw [a2] at b2;cases b2
 rw [a3] at b3;cases b3
 rw [a4] at b4;cases b4
 rw [a5] at b5
 obtain ⟨r1,r2,r3⟩:=r
 obtain ⟨p1,p2,p3⟩:=r'
 simp only [Option.some.injEq,Prod.mk.injEq,true_and] at *
 obtain ⟨e1,e2⟩:=b5
 obtain ⟨rfl,e3⟩:=List.append_inj' e2 rfl
 simp only [List.cons.injEq,and_true] at e3
 subst e3
 have:=zka a8 b8
 subst this
 subst a12 b12
 exact ⟨rfl,e1,by rw [a13,b13]⟩
theorem zjG {i:Nat} {f:Str} {g:MS} {ρ:Ev} {Ω:Sto} {r:Out × Ev × Sto} (h:zgb i f g ρ Ω r):ziL i f g ρ Ω=some r:=by
 have ex:∃ r,zgb i f g ρ Ω r:=⟨r,h⟩
 unfold ziL
 rw [dif_pos ex]
 exact congrArg some (zgb.uniq (Classical.choose_spec ex) h)
section
variable {X:Cx} {W:WX} {st:Stmt} {f:Str} {cs:List Str} {i:Nat} {pos lpos apos fpos npos:Pos} {gs:MS} {x:Str}
theorem zjA (h:VS X W st gs):VS X W st (ziL i f gs):=by
 refine zlq h fun ρ Ω r cl hd=>?_
 unfold ziL at hd
 split at hd
 ·rename_i ex
  cases hd
  generalize hr:Classical.choose ex=r
  have hsp:=Classical.choose_spec ex
  rw [hr] at hsp
  obtain ⟨s,cls,fs,fd,c,Ωa,fd1,c1,a1,a2,a3,a4,a5,a6,a7,a8,a9,a10,a11,a12,a13⟩:=hsp
  obtain ⟨ix,e1,_⟩:=zdA a3
  have hfd:ClF Ω.length fd:=(cl.cel s _ a2:ClFs _ fs).get e1
  refine ⟨s,f,_,Ωa ++ [c1],⟨cls,fs,fd,c,a2,a3,a4,rfl⟩,a5,⟨Ωa,c1,cls,_,fd1,rfl,a6,a7,by rw [zbg,if_pos rfl],a8,fun k x hk hx=>?_,?_,by rw [zbo];exact a13⟩,fun j d hj=>?_,a12⟩
  ·rcases a9 k x hk hx with z | z
   ·exact cl.cel k x z
   ·exact z
  ·rw [zbo]
   exact zdv (cl.cel s _ a2:ClFs _ fs) (by rcases a10 with z | z;exact z ▸ hfd;exact z)
  ·rcases a11 j d hj with z | z
   ·exact cl.env j d z
   ·exact z
 ·cases hd
theorem zjY (hv:PE X (.Name x npos) (tVar i)) (hc:zaW X.K cs f) (hbf:attributeBase (.Name x npos) f X.env (eval (.Name x npos) X.env)=eval (.Name x npos) X.env:=by rfl)
  (hbase:attributeBase (.Attribute (.Name x npos) f fpos) "append" X.env (eval (.Attribute (.Name x npos) f fpos) X.env)=eval (.Attribute (.Name x npos) f fpos) X.env:=by rfl)
  (hfew:((backTo pos (starEach [.List [] lpos] X.env)).all (fun x=>!x.1) && (backToKw pos (keywordEach [] X.env)).all (fun x=>x.1.isSome)
   && decide (([.List [] lpos] : List Expr).length + ([] : List Keyword).length + (if ([] : List Keyword).isEmpty then 0 else 1) < 30))=true:=by rfl)
  (hline:(apos.endLine == pos.line)=true:=by rfl) (hs:starEach [.List [] lpos] X.env=(false,eval (.List [] lpos) X.env) :: starEach [] X.env:=by rfl) (hplain:(backTo pos (starEach [] X.env)).any (·.1)=false:=by rfl) :
  VE X W (.Call (.Attribute (.Attribute (.Name x npos) f fpos) "append" apos) [.List [] lpos] [] pos) (zgx cs i f):=by
 refine ⟨_,zmZ PySem.F.plainAttrs_list PySem.F.slot_list_append PySem.F.type_list_append zeu (zkQ hv hbf) (zhf (zkG zhB) zhB) hbase hfew hline hs hplain,fun G ι Ω H σ ρ Q w r h=>?_⟩
 unfold zgx at h
 split at h
 ·rename_i s cls fs ds eo
  split at h
  ·rename_i hl
   obtain ⟨h1,h2,h3,h4⟩:=zc9 eo
   obtain ⟨v,q1,q2⟩:=r.2 i _ h1
   obtain ⟨a,C,dx,ws,rfl,ha,hg,h0,hH,hF⟩:=w.ins h2 q2
   obtain ⟨C',z0,z1,z2⟩:=hc cls h3
   rw [h0] at z0;cases z0
   obtain ⟨u,l,du⟩:=hF.look h4
   have du0:=du
   obtain ⟨b,xs,rfl,hGb,hbι,hHb,hden⟩:=du
   refine ⟨_,q1,a,C,dx,ws, .ref b,rfl,hH,z1,z2,l, .inl ⟨rfl,xs, .inl (.inl hHb)⟩,⟨by simp,fun p hp=>?_⟩⟩
   have hb0:b ≠ p:=zaO hHb hp
   have hHb':upd H p (.lst []) b=some (.lst xs):=by rw [zao hb0];exact hHb
   refine ⟨b,xs, .ref p,rfl,rfl,hHb',by rw [hden.length];exact hl,?_⟩
   have hsl:s < Ω.length:=(List.getElem?_eq_some_iff.mp h2).1
   have w1:Wd X.K G (ι ++ [p]) (Ω ++ [.lst []]) (upd H p (.lst [])):=w.cell hp ⟨w.zfG hp,[],zaw, .nil⟩
   have hap:a ≠ p:=w.ne hp (zbI ha)
   have e1:(Ω ++ [Cell.lst []])[s]? = some (.ins cls fs):=by rw [List.getElem?_append_left hsl];exact h2
   have e2:(ι ++ [p])[s]? = some a:=by rw [List.getElem?_append_left (by rw [w.len];exact hsl)];exact ha
   have e3:upd H p (.lst []) a=some (.ins C dx ws):=by rw [zao hap];exact hH
   have cl0:ClL Ω.length ds:=by have:=hden.cl;rwa [w.len] at this
   have w2:=w1.putO (fd' := .lst (ds ++ [.cel Ω.length])) (o := .lst (xs ++ [.ref p])) e1 e2 e3 h4 rfl l rfl ⟨hGb,_,zaw,((hden.ext (Ext.cell p)).ext (Ext.cell b)).append (.cons (by simp only [Den];exact ⟨p,rfl,by rw [List.getElem?_append_left (by simp [w.len]),← w.len];simp⟩) .nil)⟩ (zjg (by
    have:=hden.ext (Ext.cell (G:=G) p)
    have:=this.cl
    simpa [w.len] using this) ⟨by simp [Cl],trivial⟩)
   rw [List.set_append_left _ _ hsl] at w2
   exact h .non _ G (ι ++ [p]) (Ext.cell p) w2 (by simp only [Den])
  ·exact h.elim
 ·exact h.elim
end
end V2
namespace V2
open PySem PySem.Spec PyProof.Rows L2
def objF (cs:List Str) (i:Nat) (ρ:Ev) (Ω:Sto):Option (Nat × Str × List (Str × Fd)):=match (ρ[i]?).join with
 | some (.cel s)=>match Ω[s]? with
  | some (.ins cls fs)=>if cls ∈ cs then some (s,cls,fs) else none
  | _=>none
 | _=>none
theorem zjx {cs:List Str} {i:Nat} {ρ:Ev} {Ω:Sto} {s:Nat} {cls:Str} {fs:List (Str × Fd)} (h:objF cs i ρ Ω=some (s,cls,fs)):ρ[i]? = some (some (.cel s))∧Ω[s]? = some (.ins cls fs)∧cls ∈ cs:=by
 unfold objF at h
 cases e1:(ρ[i]?).join with
 | none=>rw [e1] at h;cases h
 | some d =>
  rw [e1] at h
  cases d with
  | cel k =>
   simp only at h
   cases e2:Ω[k]? with
   | none=>rw [e2] at h;cases h
   | some c =>
    rw [e2] at h
    cases c with
    | ins cls' fs' =>
     simp only at h
     by_cases hc:cls' ∈ cs
     ·rw [if_pos hc] at h
      cases h
      exact ⟨join_some e1,e2,hc⟩
     ·rw [if_neg hc] at h;cases h
    | _=>cases h
  | _=>cases h
@[simp] def Fd.ofC:Cell→Option Fd
 | .lst ds=>some (.lst ds)
 | .dct kvs=>some (.dct kvs)
 | _=>none
theorem Fd.zkk {c:Cell} {fd:Fd} (h:Fd.ofC c=some fd):fd.cell=some c:=by
 cases c <;> cases h <;> rfl
open Classical in
@[simp] noncomputable def zkl (cs:List Str) (i:Nat) (f:Str) (fv:Ev→Mo A):MS:=fun ρ Ω=>match objF cs i ρ Ω with
 | some (s,cls,fs)=>match fv ρ Ω with
  | some (.ok (.cel n),Ω1)=>match Ω1[Ω.length]? with
   | some c=>match Fd.ofC c with
    | some fd=>if n=Ω.length∧Ω1=Ω ++ [c]∧fs.length < 1000∧ClF Ω.length fd then some (.nx,ρ,Ω.set s (.ins cls (putD f fd fs))) else none
    | none=>none
   | none=>none
  | _=>none
 | none=>none
section
variable {X:Cx} {W:WX} {st:Stmt} {f:Str} {cs:List Str} {i:Nat} {fv:Ev→Mo A}
theorem zlM (h:VS X W st (zfC cs f (vVar i) fv)):VS X W st (zkl cs i f fv):=by
 obtain ⟨t,p,sm⟩:=h
 refine ⟨t,p,fun G ι Ω H σ ρ D w r h=>?_⟩
 have cl:=w.clS r
 unfold zkl at h
 split at h
 ·rename_i s cls fs eo
  split at h
  ·rename_i n Ω1 e1
   split at h
   ·rename_i c e2
    split at h
    ·rename_i fd e3
     split at h
     ·rename_i hc
      obtain ⟨rfl,rfl,hl,hcl⟩:=hc
      obtain ⟨h1,h2,h3⟩:=zjx eo
      have hsl:s < Ω.length:=(List.getElem?_eq_some_iff.mp h2).1
      have hcell:=Fd.zkk e3
      refine sm G ι Ω H σ ρ D w r ?_
      have h1':(ρ[i]?).join=some (.cel s):=by rw [h1];rfl
      have h2':(Ω ++ [c])[s]? = some (.ins cls fs):=by rw [List.getElem?_append_left hsl];exact h2
      have e:zfC cs f (vVar i) fv ρ Ω=some (.nx,ρ,Ω.set s (.ins cls (putD f (.val (.cel Ω.length)) fs)) ++ [c]):=by
       simp only [zfC,sM,e1,vVar,need,h1',Option.map_some,h2',if_pos (And.intro h3 hl)]
       rw [List.set_append_left _ _ hsl]
      rw [e]
      intro σ' H' G' ι' ex w' r'
      have wf:=w'.fold (s:=s) (f:=f) (fd:=fd) (cls:=cls) (fs:=putD f (.val (.cel Ω.length)) fs) (List.getElem?_set_self hsl) (by rw [zbg,if_pos rfl];simp) hcell (fun k x hk hx=>by
       rw [List.getElem?_set_ne (Ne.symm hk)] at hx
       have:=cl.cel k x hx
       simpa using this) (by
       rw [zbo]
       have:=zdv (f:=f) (cl.cel s _ h2:ClFs _ fs) hcl
       simpa using this)
      rw [zbo,List.set_set,List.length_set] at wf
      refine h σ' H' G' (ι'.take Ω.length) ⟨ex.same,fun k x q=>?_⟩ wf (zhE r' fun j d hj=>cl.env j d hj)
      have hk:=(List.getElem?_eq_some_iff.mp q).1
      rw [List.getElem?_take,if_pos (by rw [← w.len];exact hk)]
      exact ex.pre k x q
     ·exact h.elim
    ·exact h.elim
   ·exact h.elim
  ·exact h.elim
 ·exact h.elim
end
theorem zdR {K:PySem.W.Frag} {f:Str}:zaW K [] f:=fun cls h=>by simp at h
theorem zdk {K:PySem.W.Frag} {f cls:Str} {cs:List Str} {C:Addr} (h1:PySem.W.nsIn K mainGlobals cls=some (some (.ref C))) (h2:Cls K C) (h3:PySem.W.findIn K (.ref C) f=some none) (t:zaW K cs f):zaW K (cls :: cs) f:=fun c h=>by
 rcases List.mem_cons.mp h with e | e
 ·subst e;exact ⟨C,h1,h2,h3⟩
 ·exact t c e
section
variable {P:Program} {w:World} {K:PySem.W.Frag} {mg:Str→Option Value} {base:Heap}
theorem zhe {x qual:Str} {st:Stmt} {N ps:List Str} {k:Nat} {b:MS} {f:Addr} {fd:FuncData} (F:Fun K x qual st f fd) (S:zat N ps (zab st))
  (hbody:∀ (f:Addr) (cdv:Value) (A:Around) (outer:List Env) (s:Shared) (H:Hp) (E:XK),Room k (A.deeper (envOfC qual (zab st) s.heap.objs.size f cdv)) →
   VSs (cxX P w K mg base N qual (zab st) f cdv A outer s H E) (fun _=>E) (zaj st) b):FnOk P w K mg base (CXE P w) (k + 1) f fd ps (spV K ps.length (fnF N.length b)):=by
 obtain ⟨oc,od,kV,doc,pm,an,cdv,ct,osl,rfl,lk,hcd⟩:=F.ex
 refine zjX lk hcd S (fun vs H Q E h=>h.1) fun A outer s H vs Q E hr hsp=>?_
 obtain ⟨t,p,q⟩:=hbody f cdv A outer s H E hr
 exact ⟨t,zjq p,zfD q hsp⟩
structure HasM (K:PySem.W.Frag) (mg:Str→Option Value) (cls m qual:Str) (st:Stmt):Prop where
 ex:∃ C f fd,PySem.W.nsIn K mainGlobals cls=some (some (.ref C))∧mg cls=some (.ref C)∧Cls K C∧Meth K C m f∧Fun K m qual st f fd
theorem zcc.of {cls m qual:Str} {st:Stmt} {N ps:List Str} {k:Nat} {b:MS} (h:HasM K mg cls m qual st) (S:zat N ps (zab st))
  (bind:∀ (kV doc pm:Value) (an:Option Addr) (cdv ct:Value) (us:List Value),us.length=ps.length→bindArgs (PySem.W.fnOf m qual (zav st) (zaj st) (zab st) .none kV doc pm an cdv ct) ⟨us,[]⟩ = pure (ps.zip us))
  (hbody:∀ (f:Addr) (cdv:Value) (A:Around) (outer:List Env) (s:Shared) (H:Hp) (E:XK),Room k (A.deeper (envOfC qual (zab st) s.heap.objs.size f cdv)) →
   VSs (cxX P w K mg base N qual (zab st) f cdv A outer s H E) (fun _=>E) (zaj st) b):zcc P w K mg base cls m (k + 1) ps.length [] (fnF N.length b):=by
 obtain ⟨C,f,fd,h1,_,h2,h3,F⟩:=h.ex
 exact ⟨C,f,fd,ps,[],[],h1,h2,h3,rfl,zhe F S hbody,F.binds bind, .nil,fun _ _ => .nil⟩
theorem zcc.none {cls m qual:Str} {st:Stmt} {N ps:List Str} {k n:Nat} (h:HasM K mg cls m qual st) (hn:ps.length=n) (bind:∀ (kV doc pm:Value) (an:Option Addr) (cdv ct:Value) (us:List Value),us.length=ps.length→bindArgs (PySem.W.fnOf m qual (zav st) (zaj st) (zab st) .none kV doc pm an cdv ct) ⟨us,[]⟩ = pure (ps.zip us)) :
  zcc P w K mg base cls m k n [] (fun _=>stuck):=by
 obtain ⟨C,f,fd,h1,_,h2,h3,F⟩:=h.ex
 exact ⟨C,f,fd,ps,[],[],h1,h2,h3,hn,⟨fun vs H Q E h=>h.1,fun A outer s H args us vs Q E hr he hb hv hs=>by obtain ⟨_,_,_,_,_,_,_,q⟩:=hs;exact q.elim⟩,F.binds bind, .nil,fun _ _ => .nil⟩
structure HasI (K:PySem.W.Frag) (mg:Str→Option Value) (cls qual:Str) (st:Stmt):Prop where
 ex:∃ C f fd,PySem.W.nsIn K mainGlobals cls=some (some (.ref C))∧mg cls=some (.ref C)∧Mk K C f∧Fun K "__init__" qual st f fd
theorem zhR.of {cls qual:Str} {st:Stmt} {N ps:List Str} {k:Nat} {b:MS} (h:HasI K mg cls qual st) (S:zat N ps (zab st))
  (bind:∀ (kV doc pm:Value) (an:Option Addr) (cdv ct:Value) (us:List Value),us.length=ps.length→bindArgs (PySem.W.fnOf "__init__" qual (zav st) (zaj st) (zab st) .none kV doc pm an cdv ct) ⟨us,[]⟩ = pure (ps.zip us))
  (hbody:∀ (f:Addr) (cdv:Value) (A:Around) (outer:List Env) (s:Shared) (H:Hp) (E:XK),Room k (A.deeper (envOfC qual (zab st) s.heap.objs.size f cdv)) →
   VSs (cxX P w K mg base N qual (zab st) f cdv A outer s H E) (fun _=>E) (zaj st) b):zhR P w K mg base cls (k + 1) ps.length (fnF N.length b):=by
 obtain ⟨C,f,fd,h1,h2,h3,F⟩:=h.ex
 exact ⟨C,f,fd,ps,h1,h2,h3,rfl,zhe F S hbody,F.binds bind⟩
structure HasB (K:PySem.W.Frag) (mg:Str→Option Value) (rk m qual:Str) (st:Stmt):Prop where
 ex:∃ R f fd,mg rk=some (.ref R)∧znl K R m f∧Fun K m qual st f fd
theorem zjF.of {rk m qual:Str} {st:Stmt} {N ps:List Str} {k:Nat} {b:MS} (h:HasB K mg rk m qual st) (S:zat N ps (zab st))
  (bind:∀ (kV doc pm:Value) (an:Option Addr) (cdv ct:Value) (us:List Value),us.length=ps.length→bindArgs (PySem.W.fnOf m qual (zav st) (zaj st) (zab st) .none kV doc pm an cdv ct) ⟨us,[]⟩ = pure (ps.zip us))
  (hbody:∀ (f:Addr) (cdv:Value) (A:Around) (outer:List Env) (s:Shared) (H:Hp) (E:XK),Room k (A.deeper (envOfC qual (zab st) s.heap.objs.size f cdv)) →
   VSs (cxX P w K mg base N qual (zab st) f cdv A outer s H E) (fun _=>E) (zaj st) b):zjF P w K mg base rk m (k + 1) ps.length (fnF N.length b):=by
 obtain ⟨R,f,fd,h1,h2,F⟩:=h.ex
 exact ⟨R,f,fd,ps,h1,h2,rfl,zhe F S hbody,F.binds bind⟩
end
end V2
namespace M
open PySem V2
noncomputable def zaY:MS :=
 (sSeq (zfC ["Sums"] "keep" (vVar 0) (vVar 1))
  (sSeq (zfC ["Sums"] "many" (vVar 0) (cI 0))
  (zkl ["Sums"] 0 "levels" (vLst true a0))))
noncomputable def zaC:List A→Mo A:=fnF 2 zaY
noncomputable def zbc:MS :=
 (sExp (vBM zg9 (vVar 1) (zac (vVar 2) a0)))
noncomputable def zbZ:MS :=
 (sSeq (sAsg (vLst true a0) (gN 1))
  (sSeq (ziL 0 "levels" (sFor (zfa (vFld ["Sums"] "levels" (vVar 0))) (gN 2) zbc))
  (sRet (vFrz 1))))
noncomputable def zaq:List A→Mo A:=fnF 3 zbZ
noncomputable def zfp:MS :=
 (sRet (vTup (zac (vOp (gAdd false) (vOp gIx (vVar 0) (cI 0)) (vOp gIx (vVar 1) (cI 0))) (zac (vOp (gAdd false) (vOp gIx (vVar 0) (cI 1)) (vOp gIx (vVar 1) (cI 1))) (zac (vCl zje (zac (vOp gIx (vVar 0) (cI 2)) (zac (vOp gIx (vVar 1) (cI 2)) a0))) (zac (vCl zgi (zac (vOp gIx (vVar 0) (cI 3)) (zac (vOp gIx (vVar 1) (cI 3)) a0))) a0))))))
noncomputable def zb5:List A→Mo A:=fnF 2 zfp
noncomputable def zcz:MS :=
 (sSeq (sIf (zaI (vOp gEq (vVar 1) (vOp gIx (vVar 0) (cI 0))))
   (sRet (vTup (zac (vOp gIx (vVar 0) (cI 1)) (zac (vOp gIx (vVar 0) (cI 1)) a0))))
   sNx)
  (sRet (vTup (zac (vOp (gMul) (vVar 1) (vOp gIx (vVar 0) (cI 2))) (zac (vOp (gMul) (vVar 1) (vOp gIx (vVar 0) (cI 3))) a0)))))
noncomputable def za4:List A→Mo A:=fnF 2 zcz
noncomputable def zbQ:MS :=
 (sSeq (sAsg (vCl zje (zac (vVar 4) (zac (vOp gIx (vVar 5) (cI 0)) a0))) (gN 6))
   (sSeq (sAsg (vCl (zaP 2 za4) (zac (vVar 5) (zac (vVar 6) a0))) (gN 7))
   (sSeq (sAsg (vOp (gAdd false) (vVar 2) (vOp gIx (vVar 7) (cI 0))) (gN 2))
   (sSeq (sAsg (vOp (gAdd false) (vVar 3) (vOp gIx (vVar 7) (cI 1))) (gN 3))
   (sAsg (vOp (gSub) (vVar 4) (vVar 6)) (gN 4))))))
noncomputable def zbH:MS :=
 (sSeq (sIf (vOrT (zaI (vOp gLt (vVar 1) (cI 1))) (zaI (vOp gGt (vVar 1) (vFld ["Sums"] "many" (vVar 0)))))
   (ziW "NoPlace" (zac (cS "the last ones are from 1 to as many as were put in") a0))
   sNx)
  (sSeq (sAsg (cI 0) (gN 2))
  (sSeq (sAsg (cI 0) (gN 3))
  (sSeq (sAsg (vVar 1) (gN 4))
  (sSeq (sFor (zfa (zcg "blocks" [("Sums",zba 1 [] zaq)] (vVar 0) a0)) (gN 5) zbQ)
  (sRet (vTup (zac (vVar 2) (zac (vVar 3) a0)))))))))
noncomputable def zaF:List A→Mo A:=fnF 8 zbH
noncomputable def zd7:MS :=
 (sSeq (sAsg (vCl zgi (zac (cI 0) (zac (vOp (gSub) (vCl gLen (zac (vVar 0) a0)) (vVar 1)) a0))) (gN 3))
  (sRet (vCl zje (zac (vVar 2) (zac (vCl zgi (zac (vVar 3) (zac (vOp (gMod) (vCl (zaP 2 zaB) (zac (vVar 0) (zac (vOp (gSub) (vVar 1) (cI 1)) a0))) (vOp (gAdd false) (vVar 2) (cI 1))) a0))) a0)))))
noncomputable def zbj:List A→Mo A:=fnF 4 zd7
noncomputable def zcq:MS :=
 (sSeq (sAsg (vCl zgi (zac (cI 0) (zac (vOp (gSub) (vCl gLen (zac (vVar 0) a0)) (vVar 1)) a0))) (gN 3))
  (sRet (vCl (zaP 2 zaM) (zac (vCl (zaP 2 zaB) (zac (vVar 0) (zac (vOp (gAdd false) (vVar 1) (vOp (gMod) (vVar 2) (vCl zgi (zac (cI 1) (zac (vVar 3) a0))))) a0))) (zac (vVar 2) a0)))))
noncomputable def zbN:List A→Mo A:=fnF 4 zcq
noncomputable def zas:MS :=
 (sIf (zaI (vOp gLe (vVar 7) (vVar 6)))
    (sSeq (sAsg (vOp (gAdd false) (vVar 4) (vVar 8)) (gN 4))
    (sSeq (sAsg (vOp (gAdd false) (vVar 5) (vVar 8)) (gN 5))
    (sAsg (vOp (gSub) (vVar 6) (vVar 7)) (gN 6))))
    (sIf (zaI (vOp gGt (vVar 6) (cI 0)))
     (sSeq (sAsg (vOp (gAdd false) (vVar 4) (vOp (gMul) (vVar 6) (vVar 9))) (gN 4))
     (sSeq (sAsg (vOp (gAdd false) (vVar 5) (vOp (gMul) (vVar 6) (vVar 10))) (gN 5))
     (sSeq (sAsg (cI 0) (gN 6))
     (sIf (zaI (vOp gGe (vOp (gMul) (vOp (gSub) (vVar 7) (cI 1)) (vOp (gSub) (vVar 1) (cI 1))) (vVar 3)))
      (sRet (cB false))
      sNx))))
     sNx))
noncomputable def zbl:Ev→Mo A :=
 (vLC false 1 [] (vSeq (vVar 11)) (gN 0) (vOrT (zhd (zaI (vCl gIs1 (zac (vVar 0) (zac (cT "int") a0))))) (zaI (vCl gIs1 (zac (vVar 0) (zac (cT "bool") a0))))) (vVar 0))
noncomputable def zcf:MS :=
 (sSeq (sAsg (cI 0) (gN 4))
  (sSeq (sAsg (cI 0) (gN 5))
  (sSeq (sAsg (vVar 3) (gN 6))
  (sSeq (sFor (zfa (zcg "blocks" [("Sums",zba 1 [] zaq)] (vVar 0) a0)) (zjM 4 (zdg (gN 7) (zdg (gN 8) (zdg (gN 9) (zdg (gN 10) zli))))) zas)
  (sSeq (sAsg (zcg "last" [("Sums",zba 2 [] zaF)] (vVar 0) (zac (vVar 3) a0)) (gN 11))
  (sSeq (sIf (vOrT (zhd (zaI (vCl gIs1 (zac (vVar 11) (zac (cT "tuple") a0))))) (zaI (vOp gNe (vVar 11) (vTup (zac (vVar 4) (zac (vVar 5) a0))))))
   (sRet (cB false))
   sNx)
  (sSeq (sIf (zaI (vOp gNe zbl (vLst false a0)))
   (sRet (cB false))
   sNx)
  (sRet (zix gLe gLe (vVar 4) (vCl gSum (zac (vSl false (vVar 2) (zga (vOp (gSub) (vCl gLen (zac (vVar 2) a0)) (vVar 3))) sl0) a0)) (vVar 5))))))))))
noncomputable def zaZ:List A→Mo A:=fnF 12 zcf
noncomputable def zbF:Addr→Exc→MS :=
 fun p e=>(sSeq (sAsg (vCl (gIsX p (xtab ["NoPlace"] ["RankError", "NoRow", "NoPlace", "NoPouch", "NoSize", "Wrong", "NoTimes", "Unlike", "NoText"] e.cls) (xtt ["NoPlace"] e.cls)) (zac (vVar 3) (zac (vTup (zac (cG "NoPouch") (zac (cG "NoRow") (zac (cG "NoSize") (zac (cG "NoText") (zac (cG "NoTimes") (zac (cG "Unlike") (zac (cG "Wrong") a0)))))))) a0))) (gN 4))
   (sAsg (vLst false (zac (vCl (gIsX p (xtab ["NoPlace"] ["RankError", "NoRow", "NoPlace", "NoPouch", "NoSize", "Wrong", "NoTimes", "Unlike", "NoText"] e.cls) (xtt ["NoPlace"] e.cls)) (zac (vVar 3) (zac (cG "RankError") a0))) (zac (vCl (gIsX p (xtab ["NoPlace"] ["RankError", "NoRow", "NoPlace", "NoPouch", "NoSize", "Wrong", "NoTimes", "Unlike", "NoText"] e.cls) (xtt ["NoPlace"] e.cls)) (zac (vVar 3) (zac (cT "ValueError") a0))) (zac (vVar 4) a0)))) (gN 2)))
noncomputable def zbL:MS :=
 (sExp (zcg "last" [("Sums",zba 2 [] zaF)] (vVar 0) (zac (vVar 1) a0)))
noncomputable def zaT:MS :=
 (sSeq (sAsg cN (gN 2))
  (sSeq (sTry 3 (fun z=>xtab ["NoPlace"] ["RankError", "NoRow", "NoPlace", "NoPouch", "NoSize", "Wrong", "NoTimes", "Unlike", "NoText"] z "NoPlace" == some true) zbL zbF)
  (sRet (vOp gEq (vVar 2) (vLst false (zac (cB true) (zac (cB true) (zac (cB false) a0))))))))
noncomputable def zbO:List A→Mo A:=noX (fnF 5 zaT)
noncomputable def zbD (self:List A→Mo A):MS :=
 (sSeq (sIf (zaI (vOp gEq (vVar 2) (zhb ["Sums"] 0 "levels")))
   (sExp (zgx ["Sums"] 0 "levels"))
   sNx)
  (sSeq (sAsg (vFIx ["Sums"] 0 "levels" (vVar 2)) (gN 3))
  (sSeq (sExp (vBM zeM (vVar 3) (zac (vVar 1) a0)))
  (sIf (zaI (vOp gGt (vCl gLen (zac (vVar 3) a0)) (vFld ["Sums"] "keep" (vVar 0))))
   (sSeq (sAsg (vSl true (vVar 3) (zga (cI 2)) sl0) (zjT ["Sums"] 0 "levels" (vVar 2)))
   (sExp (zcg "lay" [("Sums",zba 3 [] self)] (vVar 0) (zac (vCl (zaP 2 zb5) (zac (vOp gIx (vVar 3) (cI 0)) (zac (vOp gIx (vVar 3) (cI 1)) a0))) (zac (vOp (gAdd false) (vVar 2) (cI 1)) a0)))))
   sNx))))
noncomputable def zaJ:Nat→List A→Mo A
 | 0=>fun _=>stuck
 | n + 1=>fnF 4 (zbD (zaJ n))
noncomputable def zdc:MS :=
 (sSeq (zfC ["Sums"] "many" (vVar 0) (vOp (gAdd false) (vFld ["Sums"] "many" (vVar 0)) (cI 1)))
  (sExp (zcg "lay" [("Sums",zba 3 [] (zaJ 12))] (vVar 0) (zac (vTup (zac (cI 1) (zac (vVar 1) (zac (vVar 1) (zac (vVar 1) a0))))) (zac (cI 0) a0)))))
noncomputable def zcr:List A→Mo A:=fnF 2 zdc
noncomputable def zbT:MS :=
 (sSeq (sExp (vBM zeM (vVar 5) (zac (vCl (zaP 2 zah) (zac (vCl (zaP 2 zaM) (zac (vVar 7) (zac (vOp (gAdd false) (cI 1) (vVar 8)) a0))) (zac (vVar 1) a0))) a0)))
    (sExp (zcg "put" [("Sums",zba 2 [] zcr)] (vVar 4) (zac (vOp gIx (vVar 5) (vNeg (cI 1))) a0))))
noncomputable def zbU:MS :=
 (sSeq (sAsg (vCl (zaP 3 zbN) (zac (vVar 0) (zac (cI 3) (zac (vVar 6) a0)))) (gN 7))
   (sSeq (sFor (zgJ (zac (vOp (gAdd false) (cI 1) (vOp (gMod) (vVar 7) (cI 4))) a0)) (gN 8) zbT)
   (sIf (zhd (zaI (vCl (zaP 4 zaZ) (zac (vVar 4) (zac (vVar 3) (zac (vVar 5) (zac (vOp (gAdd false) (cI 1) (vOp (gMod) (vCl (zaP 2 zaM) (zac (vVar 7) (zac (cI 9) a0))) (vCl gLen (zac (vVar 5) a0)))) a0)))))))
    (sRet (cB false))
    sNx)))
noncomputable def zcj:MS :=
 (sIf (zhd (zaI (vCl (zaP 2 zbO) (zac (vVar 4) (zac (vVar 9) a0)))))
    (sRet (cB false))
    sNx)
noncomputable def zcH:Ev→Mo A :=
 (vLC false 1 [2,5] (zgJ (zac (cI 20) a0)) (gN 0) yesM (vOp (gAdd false) (cI 1) (vOp (gMod) (vCl (noX (zaP 2 zaM)) (zac (vVar 1) (zac (vVar 0) a0))) (vCl gLen (zac (vVar 2) a0)))))
noncomputable def zcP:MS :=
 (sIf (zhd (zaI (vCl (zaP 4 zaZ) (zac (vVar 4) (zac (vVar 3) (zac (vVar 5) (zac (vVar 9) a0)))))))
    (sRet (cB false))
    sNx)
noncomputable def zc0:MS :=
 (sSeq (sAsg (vOp (gAdd false) (vVar 9) (vOp gIx (vVar 10) (cI 0))) (gN 9))
   (sIf (zaI (vOp gNe (zcg "last" [("Sums",zba 2 [] zaF)] (vVar 4) (zac (vVar 9) a0)) (vTup (zac (vCl gSum (zac (vSl false (vVar 5) (zga (vOp (gSub) (vCl gLen (zac (vVar 5) a0)) (vVar 9))) sl0) a0)) (zac (vCl gSum (zac (vSl false (vVar 5) (zga (vOp (gSub) (vCl gLen (zac (vVar 5) a0)) (vVar 9))) sl0) a0)) a0)))))
    (sRet (cB false))
    sNx))
noncomputable def zc3:MS :=
 (sSeq (sAsg (vOp (gMod) (vCl (zaP 2 zaB) (zac (vVar 0) (zac (cI 0) a0))) (cI 5)) (gN 1))
  (sSeq (sAsg (vCl (zaP 2 zaB) (zac (vVar 0) (zac (cI 1) a0))) (gN 2))
  (sSeq (sAsg (vOp (gAdd false) (cI 2) (vOp (gMod) (vVar 2) (cI 8))) (gN 3))
  (sSeq (sIf (zaI (vOp gEq (vOp (gMod) (vOp (gDiv) (vVar 2) (cI 8)) (cI 8)) (cI 0)))
   (sAsg (cI 1000) (gN 3))
   sNx)
  (sSeq (sAsg (vCl (zg8 "Sums" 2 zaC) (zac (vVar 3) a0)) (gN 4))
  (sSeq (sAsg (vLst true a0) (gN 5))
  (sSeq (sFor (zgJ (zac (vCl (zaP 3 zbj) (zac (vVar 0) (zac (cI 3) (zac (cI 60) a0)))) a0)) (gN 6) zbU)
  (sSeq (sFor (vSeq (vLst false (zac (cI 0) (zac (vOp (gSub) (vOp (gSub) (cI 0) (cI 1)) (vOp (gMod) (vVar 2) (cI 9))) (zac (vOp (gAdd false) (vCl gLen (zac (vVar 5) a0)) (cI 1)) (zac (vOp (gAdd false) (vCl gLen (zac (vVar 5) a0)) (vOp (gPow) (cI 10) (cI 6))) a0)))))) (gN 9) zcj)
  (sSeq (sIf (zaI (vOp gEq (vVar 5) (vLst false a0)))
   (sRet (vOp gEq (zcg "blocks" [("Sums",zba 1 [] zaq)] (vVar 4) a0) (vLst false a0)))
   sNx)
  (sSeq (sFor (vSeq (vOp (gAdd false) (vLst false (zac (cI 1) (zac (vCl gLen (zac (vVar 5) a0)) a0))) zcH)) (gN 9) zcP)
  (sSeq (sAsg (cI 0) (gN 9))
  (sSeq (sFor (zfa (zcg "blocks" [("Sums",zba 1 [] zaq)] (vVar 4) a0)) (gN 10) zc0)
  (sRet (cB true))))))))))))))
noncomputable def zgg:List A→Mo A:=fnF 11 zc3
end M
namespace V2
open PySem L2
@[simp] theorem zj1 (neg:Bool) (i j:Int) (Ω:Sto):gEqB neg (.int i) (.int j) Ω=some (.ok (.bl (if neg then !(i == j) else i == j)),Ω):=by
 simp [gEqB,res,pur,eqA]
@[simp] theorem zon (i j:Int) (Ω:Sto):gEq (.int i) (.int j) Ω=some (.ok (.bl (i == j)),Ω):=zj1 false i j Ω
theorem zeb {i j:Int} (h0 : -18446744073709551616 < i) (h1:i < 18446744073709551616):CMul i j := .inl ⟨h0,h1⟩
theorem ziY {i j:Int} (h0 : -18446744073709551616 < j) (h1:j < 18446744073709551616):CMul i j := .inr ⟨h0,h1⟩
@[simp] theorem zoV {α:Type} (x:α) (l:List α):atI (x :: l) 0=some x:=zj9 _
@[simp] theorem zoY {α:Type} (x y:α) (l:List α):atI (x :: y :: l) 1=some y:=zmn _
@[simp] theorem zo1 {α:Type} (x y z:α) (l:List α):atI (x :: y :: z :: l) 2=some z:=zgK _ 2
@[simp] theorem zo0 {α:Type} (x y z u:α) (l:List α):atI (x :: y :: z :: u :: l) 3=some u:=zgK _ 3
end V2
namespace M
open PySem L2 V2
def mixI (c k:Int):Int :=
 ((c + 1) * (48271 + 118 * k) % 2147483629 / 977 * 16807 + (c + 1) * (48271 + 118 * k) % 2147483629 * (k * k + 7) + k) % 2147483587
theorem mix0 (c k:Int):0 ≤ mixI c k:=Int.emod_nonneg _ (by decide)
theorem mix1 (c k:Int):mixI c k < 2147483587:=Int.emod_lt_of_pos _ (by decide)
theorem zhW (c k:Int) (Ω:Sto) (hc:0 ≤ c) (hc1:c < 8589934592) (hk:0 ≤ k) (hk1:k < 1048576):zaM [.int c, .int k] Ω=some (.ok (.int (mixI c k)),Ω):=by
 have f0:=Int.emod_nonneg ((c + 1) * (48271 + 118 * k)) (show (2147483629:Int) ≠ 0 by decide)
 have f1:=Int.emod_lt_of_pos ((c + 1) * (48271 + 118 * k)) (show (0:Int) < 2147483629 by decide)
 have h1:CMul (c + 1) (48271 + 118 * k):=zeb (by omega) (by omega)
 have h2:CMul k k:=zeb (by omega) (by omega)
 have h3:∀ j,CMul ((c + 1) * (48271 + 118 * k) % 2147483629) j:=fun j=>zeb (by omega) (by omega)
 have h4:∀ j,CMul j 16807:=fun j=>ziY (by decide) (by decide)
 have h5:∀ j,CMul 118 j:=fun j=>zeb (by decide) (by decide)
 have h6:∀ j,CDiv j 977:=fun j=>⟨by decide,by decide⟩
 simp [zaM,zfk,h1,h2,h3,h4,h5,h6,mixI]
def zfF (ns:List Int) (k:Int):Int:=mixI (if k < ns.length then ns[k.toNat]?.getD 0 % 2147483647 else 0) (k + 101)
theorem zk0 (ns:List Int) (k:Int):0 ≤ zfF ns k:=mix0 _ _
theorem znv (ns:List Int) (k:Int):zfF ns k < 2147483587:=mix1 _ _
theorem zhl (ns:List Int) (k:Int) (Ω:Sto) (hk:0 ≤ k) (hk1:k < 1000000):zaB [.scr ns, .int k] Ω=some (.ok (.int (zfF ns k)),Ω):=by
 by_cases h:k < (ns.length:Int)
 ·obtain ⟨n,rfl⟩:=Int.eq_ofNat_of_zero_le hk
  have hn:n < ns.length:=by omega
  have e:atI (ns.map A.int) (n:Int)=some (.int ns[n]):=by rw [ze1];simp [hn]
  have f0:=Int.emod_nonneg ns[n] (show (2147483647:Int) ≠ 0 by decide)
  have f1:=Int.emod_lt_of_pos ns[n] (show (0:Int) < 2147483647 by decide)
  have m:=fun Ω=>zhW (ns[n] % 2147483647) (n + 101) Ω f0 (by omega) (by omega) (by omega)
  simp [zaB,zdp,h,e,m,zfF,hn]
 ·have m:=fun Ω=>zhW 0 (k + 101) Ω (by decide) (by decide) (by omega) (by omega)
  simp [zaB,zdp,h,m,zfF]
end M
namespace V2
open PySem L2
theorem zdU {f:A→A→Bool}:∀ (xs:List A),(∀ x ∈ xs,f x x=true)→zgq f xs xs=true
 | [],_=>rfl
 | x :: xs,h=>by simp only [zgq,h x (List.mem_cons_self ..),Bool.true_and];exact zdU xs fun y hy=>h y (List.mem_cons_of_mem _ hy)
theorem zhM:∀ (n:Nat) (a:A),pur n a=true→eqA n a a=true:=by
 intro n
 induction n with
 | zero=>intro a h;cases a <;> first | (simp [eqA];done) | (simp [pur] at h)
 | succ n ih =>
  intro a h
  cases a with
  | tup ds=>simp only [pur,List.all_eq_true] at h;simp only [eqA];exact zdU ds fun x hx=>ih x (h x hx)
  | lst ds=>simp only [pur,List.all_eq_true] at h;simp only [eqA];exact zdU ds fun x hx=>ih x (h x hx)
  | int i=>simp [eqA]
  | bl i=>simp [eqA]
  | str i=>simp [eqA]
  | non=>simp [eqA]
  | _=>simp [pur] at h
theorem zdz {Ω:Sto} {n:Nat} {a:A} (h:pur 8 a=true):res Ω n a=some a:=by
 cases n <;> simp [res,h]
theorem zjC {a b c:A} {Ω:Sto} (ha:res Ω 6 a=some c) (hb:res Ω 6 b=some c) (hc:pur 8 c=true):gEq a b Ω=some (.ok (.bl true),Ω):=by
 simp [gEq,gEqB,ha,hb,hc,zhM 8 c hc]
theorem zkz {Ω:Sto} {n k:Nat} {ds:List A} (h:Ω[k]? = some (.lst ds)):res Ω (n + 1) (.cel k)=(mapO (res Ω n) ds).map .lst:=by
 rw [res,if_neg (by simp [pur])]
 simp [h]
theorem zhH {Ω:Sto} {n:Nat}:∀ (ds:List A),ds.all (pur 8)=true→mapO (res Ω n) ds=some ds
 | [],_=>rfl
 | d :: ds,h=>by
  simp only [List.all_cons,Bool.and_eq_true] at h
  simp [mapO,zdz h.1,zhH ds h.2]
abbrev E:=Int × Int × Int
@[simp] theorem zoi (n:Nat) (i:Int):pur n (.int i)=true:=by cases n <;> rfl
end V2
namespace M
open PySem L2 V2
end M
namespace M
open PySem L2 V2
end M
namespace M
open PySem L2 V2
end M
namespace V2
open PySem L2
theorem zjK {α:Type} (l:List α) (x:α):atI (l ++ [x]) (-1)=some x:=by
 unfold atI ixN
 rw [if_neg (by decide),if_pos (by simp;omega)]
 simp
 have:((-1:Int) + ((l.length:Int) + 1)).toNat=l.length:=by omega
 rw [this]
 simp
end V2
namespace M
open PySem L2 V2
end M
namespace V2
open PySem L2
theorem zfY {ok:Sto→Prop} {g:A→MS} {c:Ev→Mo Bool} {e:Ev→Mo A} (F:A→Option A) (P:Ev→Prop) (Ω0:Sto) (hok:∀ ys,ok (Ω0 ++ [.lst ys])):∀ (xs:List A) (ρ:Ev) (acc:List A),P ρ→acc.length + xs.length ≤ 1000000 →
  (∀ x ∈ xs,∀ ρ,P ρ→∀ ys,∃ ρ1,P ρ1∧g x ρ (Ω0 ++ [.lst ys])=some (.nx,ρ1,Ω0 ++ [.lst ys])∧((∃ y,F x=some y∧c ρ1 (Ω0 ++ [.lst ys])=some (.ok true,Ω0 ++ [.lst ys])∧e ρ1 (Ω0 ++ [.lst ys])=some (.ok y,Ω0 ++ [.lst ys]))∨(F x=none∧c ρ1 (Ω0 ++ [.lst ys])=some (.ok false,Ω0 ++ [.lst ys])))) →
  ∃ ρ',fLC ok g c e Ω0.length xs ρ (Ω0 ++ [.lst acc])=some (ρ',Ω0 ++ [.lst (acc ++ xs.filterMap F)])
 | [],ρ,acc,_,_,_=>⟨ρ,by simp [fLC,hok]⟩
 | x :: xs,ρ,acc,hP,hl,turn=>by
  simp only [List.length_cons] at hl
  obtain ⟨ρ1,hP1,e1,q⟩:=turn x (List.mem_cons_self ..) ρ hP acc
  have hz:acc.length < sizeLine:=by rw [sizeLine_eq];omega
  rcases q with ⟨y,f1,e2,e3⟩ | ⟨f1,e2⟩
  ·obtain ⟨ρ',ih⟩:=zfY F P Ω0 hok xs ρ1 (acc ++ [y]) hP1 (by simp;omega) fun x hx=>turn x (List.mem_cons_of_mem _ hx)
   exact ⟨ρ',by simp [fLC,hok,e1,e2,e3,hz,ih,f1]⟩
  ·obtain ⟨ρ',ih⟩:=zfY F P Ω0 hok xs ρ1 acc hP1 (by omega) fun x hx=>turn x (List.mem_cons_of_mem _ hx)
   exact ⟨ρ',by simp [fLC,hok,e1,e2,ih,f1]⟩
theorem zhO {n:Nat} {js:List Nat} {fi:Ev→Mo Src} {g:A→MS} {c:Ev→Mo Bool} {e:Ev→Mo A} {ρ:Ev} {Ω Ω0:Sto} {S:Src} (F:A→Option A) (P:Ev→Prop) (hfi:fi ρ Ω=some (.ok S,Ω0)) (hok:∀ ys,S.ok (Ω0 ++ [.lst ys])) (hP:P (lcEv n js ρ)) (hl:S.ds.length ≤ 1000000)
  (turn:∀ x ∈ S.ds,∀ ρ,P ρ→∀ ys,∃ ρ1,P ρ1∧g x ρ (Ω0 ++ [.lst ys])=some (.nx,ρ1,Ω0 ++ [.lst ys])∧((∃ y,F x=some y∧c ρ1 (Ω0 ++ [.lst ys])=some (.ok true,Ω0 ++ [.lst ys])∧e ρ1 (Ω0 ++ [.lst ys])=some (.ok y,Ω0 ++ [.lst ys]))∨(F x=none∧c ρ1 (Ω0 ++ [.lst ys])=some (.ok false,Ω0 ++ [.lst ys]))))
  (hc:ClL Ω0.length (S.ds.filterMap F)):vLC false n js fi g c e ρ Ω=some (.ok (.lst (S.ds.filterMap F)),Ω0):=by
 obtain ⟨ρ',q⟩:=zfY F P Ω0 hok S.ds (lcEv n js ρ) [] hP (by simpa using hl) turn
 simp [vLC,mb,hfi,q,zld,hc]
theorem zjI {a b c:A} {Ω:Sto} (ha:res Ω 6 a=some c) (hb:res Ω 6 b=some c) (hc:pur 8 c=true):gNe a b Ω=some (.ok (.bl false),Ω):=by
 simp [gNe,gEqB,ha,hb,hc,zhM 8 c hc]
theorem zhw {a:A} {Ω:Sto} (h:pur 8 a=true):gEq a a Ω=some (.ok (.bl true),Ω):=zjC (zdz h) (zdz h) h
theorem zfw {a:A} {Ω:Sto} (h:pur 8 a=true):gNe a a Ω=some (.ok (.bl false),Ω):=zjI (zdz h) (zdz h) h
end V2
namespace V2
open PySem L2
theorem rngO {f:Ev→Mo (List A)} {ρ:Ev} {Ω Ω':Sto} {j:Int} (h:f ρ Ω=some (.ok [.int j],Ω')) (hs:zcW j):zgJ f ρ Ω=some (.ok (zc1 0 j.toNat),Ω'):=by
 unfold zgJ
 rw [zbv h]
 show mb (chk (zcW j)) _ Ω'=_
 rw [zmS _ hs]
 rfl
theorem forO {fi:Ev→Mo Src} {g:A→MS} {b:MS} {ρ:Ev} {Ω Ω':Sto} {S:Src} (h:fi ρ Ω=some (.ok S,Ω')):sFor fi g b ρ Ω=fFor S.ok g b S.ds ρ Ω':=by
 unfold sFor
 rw [zeg h]
theorem zjk {n:Nat}:∀ {as:List A},(∀ a ∈ as,Cl n a)→ClL n as
 | [],_=>by simp only [ClL]
 | a :: as,h=>by simp only [ClL];exact ⟨h a (List.mem_cons_self ..),zjk fun b hb=>h b (List.mem_cons_of_mem _ hb)⟩
end V2
namespace M
open PySem L2 V2
abbrev Rn:=Int × Int
def und (rs:List Rn) (n:Int):Int:=(rs.map fun r=>if r.1 < n then r.2 else 0).sum
def upt (rs:List Rn) (n:Int):Int:=(rs.map fun r=>if r.1 ≤ n then r.2 else 0).sum
def whole (rs:List Rn):Int:=(rs.map (·.2)).sum
end M
namespace M
open PySem PyProof L2 V2
theorem ziJ (c k:Int) (hc:0 ≤ c) (hc1:c < 8589934592):∃ n,∀ Ω,zah [.int c, .int k] Ω=some (.ok (.int n),Ω):=by
 have h1:∀ j,CMul c j:=fun j=>zeb (by omega) (by omega)
 have h2:∀ j,CMul 2 j:=fun j=>zeb (by decide) (by decide)
 have h2':∀ j,CMul j 48271:=fun j=>ziY (by decide) (by decide)
 have h3:CPow 10 18:=⟨by decide,by decide,by decide⟩
 have h4:CPow 10 59:=⟨by decide,by decide,by decide⟩
 have h5:CPow 10 60:=⟨by decide,by decide,by decide⟩
 have hd:∀ j,CDiv j 14:=fun j=>⟨by decide,by decide⟩
 have hs:(4:Nat) ≤ sizeLine:=by decide
 have hs3:(3:Nat) ≤ sizeLine:=by decide
 by_cases k0:k=0
 ·exact ⟨c % 7,fun Ω=>by simp [zah,zam,k0]⟩
 by_cases k1:k=1
 ·exact ⟨c % 100 - 50,fun Ω=>by simp [zah,zam,k1]⟩
 by_cases k2:k=2
 ·exact ⟨c * c * 48271 % (2 * 10 ^ 18 + 1) - 10 ^ 18,fun Ω=>by simp [zah,zam,k2,h1,h2,h2',h3]⟩
 by_cases k3:k=3
 ·have hm:c % 4=0∨c % 4=1∨c % 4=2∨c % 4=3:=by omega
  rcases hm with e | e | e | e
  ·exact ⟨10 ^ 59 + c,fun Ω=>by simp [zah,zam,k3,e,h4,h5,hs]⟩
  ·exact ⟨0 - 10 ^ 59 - c,fun Ω=>by simp [zah,zam,k3,e,h4,h5,hs]⟩
  ·exact ⟨10 ^ 60 - 1,fun Ω=>by simp [zah,zam,k3,e,h4,h5,hs]⟩
  ·exact ⟨1 - 10 ^ 60,fun Ω=>by simp [zah,zam,k3,e,h4,h5,hs]⟩
 ·have hm:c % 30 / 14=0∨c % 30 / 14=1∨c % 30 / 14=2:=by omega
  rcases hm with e | e | e
  ·exact ⟨5,fun Ω=>by simp [zah,zam,k0,k1,k2,k3,e,hd,hs3]⟩
  ·exact ⟨0 - 5,fun Ω=>by simp [zah,zam,k0,k1,k2,k3,e,hd,hs3]⟩
  ·exact ⟨0,fun Ω=>by simp [zah,zam,k0,k1,k2,k3,e,hd,hs3]⟩
end M
namespace M
open PySem L2 V2
abbrev Sg:=List Int
def mnL:Sg→Int
 | []=>0
 | x :: r=>if r=[] then x else min x (mnL r)
def mxL:Sg→Int
 | []=>0
 | x :: r=>if r=[] then x else max x (mxL r)
theorem zkL:∀ {a b:Sg},a ≠ []→b ≠ []→mnL (a ++ b)=min (mnL a) (mnL b)
 | [],_,h,_=>absurd rfl h
 | x :: r,b,_,hb=>by
  by_cases e:r=[]
  ·subst e
   simp [mnL,hb]
  ·have h1:r ++ b ≠ []:=by simp [e]
   simp only [List.cons_append,mnL,if_neg h1,if_neg e,zkL e hb]
   omega
theorem zkN:∀ {a b:Sg},a ≠ []→b ≠ []→mxL (a ++ b)=max (mxL a) (mxL b)
 | [],_,h,_=>absurd rfl h
 | x :: r,b,_,hb=>by
  by_cases e:r=[]
  ·subst e
   simp [mxL,hb]
  ·have h1:r ++ b ≠ []:=by simp [e]
   simp only [List.cons_append,mxL,if_neg h1,if_neg e,zkN e hb]
   omega
theorem zmO:∀ {g:Sg} {x:Int},x ∈ g→mnL g ≤ x∧x ≤ mxL g
 | [],_,h=>by simp at h
 | y :: r,x,h=>by
  by_cases e:r=[]
  ·subst e
   simp at h;subst h;simp [mnL,mxL]
  ·simp only [mnL,mxL,if_neg e]
   rcases List.mem_cons.mp h with z | z
   ·subst z;omega
   ·have:=zmO z;omega
theorem zkI {lo hi:Int}:∀ {g:Sg},(∀ x ∈ g,lo ≤ x∧x ≤ hi)→(g.length:Int) * lo ≤ g.sum∧g.sum ≤ (g.length:Int) * hi
 | [],_=>by simp
 | x :: r,h=>by
  have a:=h x (List.mem_cons_self ..)
  have b:=zkI (g:=r) fun y hy=>h y (List.mem_cons_of_mem _ hy)
  have e1:((x :: r).length:Int) * lo=r.length * lo + lo:=by simp [Int.add_mul]
  have e2:((x :: r).length:Int) * hi=r.length * hi + hi:=by simp [Int.add_mul]
  rw [e1,e2,List.sum_cons]
  omega
def sgE (g:Sg):A := .tup [.int g.length, .int g.sum, .int (mnL g), .int (mxL g)]
def layS (k:Nat):Sg→List (List Sg)→List (List Sg)
 | g,[]=>[[g]]
 | g,S :: r=>if k ≤ S.length then (match S with
  | a :: b :: t=>(t ++ [g]) :: layS k (a ++ b) r
  | _=>(S ++ [g]) :: r) else (S ++ [g]) :: r
def zay:List (List Sg)→List Sg
 | []=>[]
 | S :: r=>zay r ++ S
def zdI (L:List (List Sg)):List Int:=(zay L).flatten
def Lv (k:Nat):Nat→List (List Sg)→Prop
 | _,[]=>True
 | j,S :: r=>(∀ g ∈ S,g.length=2 ^ j)∧S ≠ []∧S.length ≤ k∧(r ≠ []→k ≤ S.length + 1)∧Lv k (j + 1) r
theorem zkD {k:Nat} (hk:2 ≤ k):∀ {L:List (List Sg)} {g:Sg} {j:Nat},Lv k j L→g.length=2 ^ j→Lv k j (layS k g L)
 | [],g,j,_,hg=>⟨by simpa using hg,by simp,by simp;omega,fun h=>absurd rfl h,trivial⟩
 | S :: r,g,j,h,hg=>by
  obtain ⟨h1,h2,h3,h4,h5⟩:=h
  simp only [layS]
  by_cases c:k ≤ S.length
  ·rw [if_pos c]
   match S,h1,h2,h3,h4,c with
   | a :: b :: t,h1,h2,h3,h4,c =>
    simp only
    have ha:=h1 a (by simp)
    have hb:=h1 b (by simp)
    refine ⟨fun q hq=>?_,by simp,by simp at h3 ⊢;omega,fun _=>by simp at c ⊢;omega,zkD hk h5 (by rw [List.length_append,ha,hb,Nat.pow_succ];omega)⟩
    rcases List.mem_append.mp hq with z | z
    ·exact h1 q (by simp [z])
    ·simp at z;subst z;exact hg
   | [],_,h2,_,_,_=>exact absurd rfl h2
   | [a],_,_,_,_,c=>simp at c;omega
  ·rw [if_neg c]
   refine ⟨fun q hq=>?_,by simp,by simp;omega,fun h=>by have:=h4 h;simp;omega,h5⟩
   rcases List.mem_append.mp hq with z | z
   ·exact h1 q z
   ·simp at z;subst z;exact hg
theorem zhN {k:Nat} (hk:2 ≤ k):∀ {L:List (List Sg)} {g:Sg},zdI (layS k g L)=zdI L ++ g
 | [],g=>by simp [layS,zdI,zay]
 | S :: r,g=>by
  simp only [layS]
  by_cases c:k ≤ S.length
  ·rw [if_pos c]
   match S,c with
   | a :: b :: t,c =>
    simp only
    have:=zhN hk (L:=r) (g:=a ++ b)
    simp only [zdI,zay,List.flatten_append,List.flatten_cons,List.flatten_nil] at this ⊢
    rw [this];simp [List.append_assoc]
   | [],c=>simp at c;omega
   | [a],c=>simp at c;omega
  ·rw [if_neg c]
   simp [zdI,zay]
theorem zjo {k:Nat}:∀ {L:List (List Sg)} {j:Nat},Lv k j L→L ≠ []→2 ^ (j + L.length - 1) ≤ (zdI L).length
 | [],_,_,h=>absurd rfl h
 | [S],j,h,_=>by
  obtain ⟨h1,h2,_⟩:=h
  cases S with
  | nil=>exact absurd rfl h2
  | cons g t =>
   have:=h1 g (by simp)
   simp [zdI,zay];omega
 | S :: S2 :: r,j,h,_=>by
  obtain ⟨_,_,_,_,h5⟩:=h
  have:=zjo h5 (by simp)
  have e:(zdI (S :: S2 :: r)).length=(zdI (S2 :: r)).length + S.flatten.length:=by
   simp only [zdI,zay,List.flatten_append,List.length_append]
  rw [e]
  have e2:j + (S :: S2 :: r).length - 1=j + 1 + (S2 :: r).length - 1:=by simp;omega
  rw [e2];omega
theorem zjm {k:Nat} {L:List (List Sg)} (h:Lv k 0 L) (hn:(zdI L).length ≤ 500):L.length ≤ 9:=by
 by_cases e:L=[]
 ·subst e;simp
 ·have:=zjo h e
  by_cases c:L.length ≤ 9
  ·exact c
  ·have h2:2 ^ 9 ≤ 2 ^ (0 + L.length - 1):=Nat.pow_le_pow_right (by omega) (by omega)
   omega
def fsS (k m:Nat) (cs:List Nat):List (Str × Fd):=[("keep", .val (.int k)),("many", .val (.int m)),("levels", .lst (cs.map A.cel))]
structure zaD (Ω:Sto) (s k m:Nat) (L:List (List Sg)) (cs:List Nat):Prop where
 obj:Ω[s]? = some (.ins "Sums" (fsS k m cs))
 len:cs.length=L.length
 cel:∀ (j c:Nat) (S:List Sg),cs[j]? = some c→L[j]? = some S→Ω[c]? = some (.lst (S.map sgE))
 nd:cs.Nodup
 ns:s ∉ cs
structure FrS (Ω Ω':Sto) (s:Nat) (cs cs':List Nat):Prop where
 le:Ω.length ≤ Ω'.length
 eq:∀ i,i < Ω.length→i ≠ s→i ∉ cs→Ω'[i]? = Ω[i]?
 new:∀ c ∈ cs',c ∈ cs∨Ω.length ≤ c
theorem FrS.refl (Ω:Sto) (s:Nat) (cs:List Nat):FrS Ω Ω s cs cs:=⟨Nat.le_refl _,fun _ _ _ _=>rfl,fun _ h => .inl h⟩
theorem FrS.trans {Ω Ω1 Ω2:Sto} {s:Nat} {cs cs1 cs2:List Nat} (a:FrS Ω Ω1 s cs cs1) (b:FrS Ω1 Ω2 s cs1 cs2):FrS Ω Ω2 s cs cs2 where
 le:=Nat.le_trans a.le b.le
 eq:=fun i hi hs hc=>by
  rw [b.eq i (Nat.lt_of_lt_of_le hi a.le) hs (fun z=>by
   rcases a.new i z with q | q
   ·exact hc q
   ·omega),a.eq i hi hs hc]
 new:=fun c hc=>by
  rcases b.new c hc with z | z
  ·exact a.new c z
  ·exact .inr (Nat.le_trans a.le z)
section
variable {Ω:Sto} {s k m:Nat} {L:List (List Sg)} {cs:List Nat}
theorem zaD.lt (h:zaD Ω s k m L cs):s < Ω.length:=(List.getElem?_eq_some_iff.mp h.obj).1
theorem zaD.clt (h:zaD Ω s k m L cs) {j c:Nat} (hj:cs[j]? = some c):c < Ω.length∧c ≠ s:=by
 have hl:=(List.getElem?_eq_some_iff.mp hj).1
 have:=h.cel j c (L[j]'(by rw [← h.len];exact hl)) hj (List.getElem?_eq_getElem _)
 exact ⟨(List.getElem?_eq_some_iff.mp this).1,fun e=>h.ns (e ▸ List.mem_of_getElem? hj)⟩
theorem zk2 {cs:List Nat} (h:cs.Nodup) {i j c:Nat} (hi:cs[i]? = some c) (hj:cs[j]? = some c):i=j:=zb8 h hi hj
theorem zaD.upd (h:zaD Ω s k m L cs) {j c:Nat} {S':List Sg} (hj:cs[j]? = some c):zaD (Ω.set c (.lst (S'.map sgE))) s k m (L.set j S') cs∧FrS Ω (Ω.set c (.lst (S'.map sgE))) s cs cs:=by
 obtain ⟨c1,c2⟩:=h.clt hj
 have hjl:j < L.length:=by rw [← h.len];exact (List.getElem?_eq_some_iff.mp hj).1
 refine ⟨⟨by rw [List.getElem?_set_ne c2];exact h.obj,by simp [h.len],fun i d S hi hS=>?_,h.nd,h.ns⟩,⟨by simp,fun i hi hs hc=>?_,fun _ z => .inl z⟩⟩
 ·by_cases e:i=j
  ·subst e
   rw [hj] at hi;cases hi
   rw [List.getElem?_set_self hjl] at hS;cases hS
   exact List.getElem?_set_self c1
  ·rw [List.getElem?_set_ne (Ne.symm e)] at hS
   have:c ≠ d:=fun z=>e (zk2 h.nd (z ▸ hi) hj)
   rw [List.getElem?_set_ne this]
   exact h.cel i d S hi hS
 ·have:c ≠ i:=fun z=>hc (z ▸ List.mem_of_getElem? hj)
  rw [List.getElem?_set_ne this]
theorem zaD.new (h:zaD Ω s k m L cs):zaD (Ω.set s (.ins "Sums" (fsS k m (cs ++ [Ω.length]))) ++ [.lst []]) s k m (L ++ [[]]) (cs ++ [Ω.length])∧FrS Ω (Ω.set s (.ins "Sums" (fsS k m (cs ++ [Ω.length]))) ++ [.lst []]) s cs (cs ++ [Ω.length]):=by
 have hs:=h.lt
 have hcs:∀ c ∈ cs,c < Ω.length:=fun c hc=>by
  obtain ⟨j,hj,e⟩:=List.getElem_of_mem hc
  exact (h.clt (j:=j) (by rw [← e];exact List.getElem?_eq_getElem hj)).1
 refine ⟨⟨?_,by simp [h.len],fun i d S hi hS=>?_,?_,?_⟩,⟨by simp,fun i hi hs' hc=>?_,fun c hc=>?_⟩⟩
 ·rw [List.getElem?_append_left (by simpa using hs),List.getElem?_set_self hs]
 ·by_cases e:i < cs.length
  ·rw [List.getElem?_append_left e] at hi
   rw [List.getElem?_append_left (by rw [← h.len];exact e)] at hS
   have:=h.clt hi
   rw [List.getElem?_append_left (by simpa using this.1),List.getElem?_set_ne (Ne.symm this.2)]
   exact h.cel i d S hi hS
  ·have e2:i=cs.length:=by
    have:=(List.getElem?_eq_some_iff.mp hi).1
    simp at this;omega
   subst e2
   rw [List.getElem?_append_right (Nat.le_refl _)] at hi
   simp at hi;subst hi
   rw [List.getElem?_append_right (by rw [h.len];exact Nat.le_refl _),h.len] at hS
   simp at hS;subst hS
   rw [List.getElem?_append_right (by simp)];simp
 ·rw [List.nodup_append]
  exact ⟨h.nd,by simp,fun a ha b hb=>by simp at hb;have:=hcs a ha;omega⟩
 ·simp;exact ⟨h.ns,by omega⟩
 ·rw [List.getElem?_append_left (by simpa using hi),List.getElem?_set_ne (Ne.symm hs')]
 ·rcases List.mem_append.mp hc with z | z
  ·exact .inl z
  ·simp at z;right;omega
theorem zaD.rep (h:zaD Ω s k m L cs) {j:Nat} {S':List Sg} (hj:j < cs.length):zaD ((Ω ++ [Cell.lst (S'.map sgE)]).set s (.ins "Sums" (fsS k m (cs.set j Ω.length)))) s k m (L.set j S') (cs.set j Ω.length)∧FrS Ω ((Ω ++ [Cell.lst (S'.map sgE)]).set s (.ins "Sums" (fsS k m (cs.set j Ω.length)))) s cs (cs.set j Ω.length):=by
 have hs:=h.lt
 have hcs:∀ c ∈ cs,c < Ω.length:=fun c hc=>by
  obtain ⟨j,hj,e⟩:=List.getElem_of_mem hc
  exact (h.clt (j:=j) (by rw [← e];exact List.getElem?_eq_getElem hj)).1
 have e0:(Ω ++ [Cell.lst (S'.map sgE)]).set s (.ins "Sums" (fsS k m (cs.set j Ω.length)))=Ω.set s (.ins "Sums" (fsS k m (cs.set j Ω.length))) ++ [.lst (S'.map sgE)]:=List.set_append_left _ _ hs
 rw [e0]
 refine ⟨⟨?_,by simp [h.len],fun i d S hi hS=>?_,?_,?_⟩,⟨by simp,fun i hi hs' hc=>?_,fun c hc=>?_⟩⟩
 ·rw [List.getElem?_append_left (by simpa using hs),List.getElem?_set_self hs]
 ·by_cases e:i=j
  ·subst e
   rw [List.getElem?_set_self hj] at hi;cases hi
   rw [List.getElem?_set_self (by rw [← h.len];exact hj)] at hS;cases hS
   rw [List.getElem?_append_right (by simp)];simp
  ·rw [List.getElem?_set_ne (Ne.symm e)] at hi hS
   have:=h.clt hi
   rw [List.getElem?_append_left (by simpa using this.1),List.getElem?_set_ne (Ne.symm this.2)]
   exact h.cel i d S hi hS
 ·rw [List.Nodup,List.pairwise_iff_getElem]
  intro i i2 h1 h2 h12 z
  simp only [List.length_set] at h1 h2
  rw [List.getElem_set,List.getElem_set] at z
  have g1:∀ x (hx:x < cs.length),cs[x]=Ω.length→False:=fun x hx e=>by have:=hcs _ (List.getElem_mem hx);omega
  split at z
  ·rw [if_neg (by omega)] at z;exact g1 i2 h2 z.symm
  ·split at z
   ·exact g1 i h1 z
   ·have:=zk2 h.nd (i:=i) (j:=i2) (c:=cs[i]) (List.getElem?_eq_getElem h1) (by rw [z];exact List.getElem?_eq_getElem h2)
    omega
 ·intro z
  rcases List.mem_or_eq_of_mem_set z with q | q
  ·exact h.ns q
  ·omega
 ·rw [List.getElem?_append_left (by simpa using hi),List.getElem?_set_ne (Ne.symm hs')]
 ·rcases List.mem_or_eq_of_mem_set hc with q | q
  ·exact .inl q
  ·right;omega
end
end M
namespace M
open PySem L2 V2
theorem zll {c:Ev→Mo Bool} {f g:MS} {ρ:Ev} {Ω Ω':Sto} (h:c ρ Ω=some (.ok true,Ω')):sIf c f g ρ Ω=f ρ Ω':=by
 unfold sIf
 rw [zeg h]
 simp
theorem st_a (Ω:Sto) (a b:Cell):(Ω ++ [a,b])[Ω.length]? = some a:=by simp
theorem st_b (Ω:Sto) (a b:Cell):(Ω ++ [a,b])[Ω.length + 1]? = some b:=by
 rw [List.getElem?_append_right (by omega)];simp
theorem zow (Ω:Sto) (a b c:Cell):(Ω ++ [a,b]).set Ω.length c=Ω ++ [c,b]:=by simp
theorem zoX (Ω:Sto) (a b c:Cell):(Ω ++ [a,b]).set (Ω.length + 1) c=Ω ++ [a,c]:=by
 rw [List.set_append_right _ _ (by omega)];simp
end M
namespace M
open PySem L2 V2
end M
namespace M
open PySem L2 V2
end M
namespace M
open PySem L2 V2
theorem zeX {Ω Ω':Sto} {a:A} {i:Nat} (hi:i < Ω.length) (h:Ω'[i]? ≠ Ω[i]?):trim Ω (some (.ok a,Ω'))=some (.ok a,Ω'):=by
 simp only [trim]
 rw [if_neg]
 rintro ⟨e,_⟩
 apply h
 have:Ω'[i]? = (Ω'.take Ω.length)[i]?:=by rw [List.getElem?_take,if_pos hi]
 rw [this,e]
theorem zhV {a b:Sg} (ha:a ≠ []) (hb:b ≠ []) (Ω:Sto):zb5 [sgE a,sgE b] Ω=some (.ok (sgE (a ++ b)),Ω):=by
 have s4:(4:Nat) ≤ sizeLine:=by decide
 have e:sgE (a ++ b) = .tup [.int ((a.length:Int) + b.length), .int (a.sum + b.sum), .int (min (mnL a) (mnL b)), .int (max (mxL a) (mxL b))]:=by
  simp only [sgE,zkL ha hb,zkN ha hb,List.length_append,List.sum_append]
  simp
 rw [e]
 simp [zb5,zfp,sgE,s4]
section
variable {Ω:Sto} {s k m:Nat} {L:List (List Sg)} {cs:List Nat}
theorem zjn (h:zaD Ω s k m L cs) {ρ:Ev} (hρ:ρ[0]? = some (some (.cel s))):ownF ["Sums"] 0 "levels" ρ Ω=some (s,("Sums" : Str),fsS k m cs,Fd.lst (cs.map A.cel)):=zml hρ h.obj (by simp) rfl
theorem zkn (h:zaD Ω s k m L cs):gFld ["Sums"] "keep" (.cel s) Ω=some (.ok (.int k),Ω):=by
 simp only [gFld,h.obj]
 rfl
theorem zf2 (h:zaD Ω s k m L cs):gFld ["Sums"] "many" (.cel s) Ω=some (.ok (.int m),Ω):=by
 simp only [gFld,h.obj]
 rfl
theorem zkO (cs':List Nat):putD "levels" (.lst (cs'.map A.cel)) (fsS k m cs)=fsS k m cs':=rfl
theorem zkq (m':Nat):putD "many" (.val (.int (m':Int))) (fsS k m cs)=fsS k m' cs:=rfl
theorem zaD.many (h:zaD Ω s k m L cs) (m':Nat):zaD (Ω.set s (.ins "Sums" (fsS k m' cs))) s k m' L cs∧FrS Ω (Ω.set s (.ins "Sums" (fsS k m' cs))) s cs cs:=by
 refine ⟨⟨List.getElem?_set_self h.lt,h.len,fun j c S hj hS=>?_,h.nd,h.ns⟩,⟨by simp,fun i hi hs hc=>by rw [List.getElem?_set_ne (Ne.symm hs)],fun _ z => .inl z⟩⟩
 rw [List.getElem?_set_ne (Ne.symm (h.clt hj).2)]
 exact h.cel j c S hj hS
end
theorem zeP (ds:List A) (n:Nat) (h:n ≤ ds.length):cutA ds (some (n:Int)) none=ds.drop n:=by
 unfold cutA
 rw [HT.zlJ,HT.zkw,Nat.min_eq_left h,List.take_of_length_le (by simp)]
theorem zhm {k:Nat} {g:Sg} {L:List (List Sg)} {j:Nat} {S:List Sg} (h:L[j]? = some S):L.drop j=S :: L.drop (j + 1):=by
 obtain ⟨h1,h2⟩:=List.getElem?_eq_some_iff.mp h
 rw [← h2]
 exact List.drop_eq_getElem_cons h1
theorem zoF (k m:Nat) (hk:2 ≤ k) (hk2:k ≤ 1000):∀ (fuel:Nat) (L:List (List Sg)) (cs:List Nat) (j:Nat) (g:Sg) (Ω:Sto) (s:Nat),zaD Ω s k m L cs→j ≤ L.length→L.length < fuel + j→g ≠ []→(∀ S ∈ L,S.length ≤ k∧∀ q ∈ S,q ≠ [])→L.length ≤ 1000 →
  ∃ Ω' cs',zaJ fuel [.cel s,sgE g, .int j] Ω=some (.ok .non,Ω')∧zaD Ω' s k m (L.take j ++ layS k g (L.drop j)) cs'∧FrS Ω Ω' s cs cs':=by
 intro fuel
 induction fuel with
 | zero=>intro L cs j g Ω s h hj hf;omega
 | succ fuel ih =>
  intro L cs j g Ω s h hj hf hg hL hz
  have st1:∃ Ω1 L1 cs1 S,zaD Ω1 s k m L1 cs1∧FrS Ω Ω1 s cs cs1∧L1[j]? = some S∧L1.take j=L.take j∧layS k g (L.drop j)=layS k g (L1.drop j)∧S.length ≤ k∧(∀ q ∈ S,q ≠ [])∧(∀ S ∈ L1,S.length ≤ k∧∀ q ∈ S,q ≠ [])∧L1.length ≤ max L.length (j + 1) ∧
    (sIf (zaI (vOp gEq (vVar 2) (zhb ["Sums"] 0 "levels"))) (sExp (zgx ["Sums"] 0 "levels")) sNx) [some (.cel s),some (sgE g),some (.int j),none] Ω=some (.nx,[some (.cel s),some (sgE g),some (.int j),none],Ω1)∧((L1=L∧cs1=cs∧Ω1=Ω)∨(S=[]∧Ω1[s]? ≠ Ω[s]?)):=by
   have ow:=zjn h (ρ:=[some (.cel s),some (sgE g),some (.int j),none]) rfl
   have hzl:cs.length < sizeLine:=by rw [sizeLine_eq,h.len];omega
   by_cases e:j=L.length
   ·obtain ⟨h1,f1⟩:=h.new
    refine ⟨_,L ++ [[]],cs ++ [Ω.length],[],h1,f1,by rw [e];simp,by rw [e];simp,by rw [e];simp [layS],by simp,by simp,fun S hS=>?_,by simp;omega,?_, .inr ⟨rfl,?_⟩⟩
    ·rcases List.mem_append.mp hS with z | z
     ·exact hL S z
     ·simp at z;subst z;simp
    ·have ej:(cs.length:Int)=(j:Int):=by rw [h.len,e]
     have ep:=zkO (k:=k) (m:=m) (cs:=cs) (cs ++ [Ω.length])
     simp only [List.map_append,List.map_cons,List.map_nil] at ep
     simp [zhb,ow,ej,hzl,ep]
    ·rw [h.obj,h1.obj]
     intro z
     have:(cs ++ [Ω.length]).map A.cel=cs.map A.cel:=by
      simp only [fsS,Option.some.injEq,Cell.ins.injEq,true_and,List.cons.injEq,Prod.mk.injEq,Fd.lst.injEq,and_true] at z
      exact z
     have:=congrArg List.length this
     simp at this
   ·have hjl:j < L.length:=by omega
    refine ⟨Ω,L,cs,L[j],h,FrS.refl ..,List.getElem?_eq_getElem hjl,rfl,rfl,(hL _ (List.getElem_mem hjl)).1,(hL _ (List.getElem_mem hjl)).2,hL,by omega,?_, .inl ⟨rfl,rfl,rfl⟩⟩
    have ej:¬ (j:Int)=(cs.length:Int):=by rw [h.len];omega
    simp [zhb,ow,ej]
  obtain ⟨Ω1,L1,cs1,S,h1,f1,hS,ht,hly,hSk,hSn,hL1,hl1,r1,d1⟩:=st1
  have hjc:j < cs1.length:=by rw [h1.len];exact (List.getElem?_eq_some_iff.mp hS).1
  obtain ⟨c,hc⟩ : ∃ c,cs1[j]? = some c:=⟨cs1[j],List.getElem?_eq_getElem hjc⟩
  obtain ⟨hcl,hcs⟩:=h1.clt hc
  have hce:=h1.cel j c S hc hS
  obtain ⟨h2,f2⟩:=h1.upd (S':=S ++ [g]) hc
  have eS:(S ++ [g]).map sgE=S.map sgE ++ [sgE g]:=by simp
  have hat:atI (cs1.map A.cel) (j:Int)=some (.cel c):=by rw [ze1,List.getElem?_map,hc];rfl
  have ow1:=zjn h1 (ρ:=[some (.cel s),some (sgE g),some (.int j),none]) rfl
  have hz1:(S.map sgE).length < sizeLine:=by rw [sizeLine_eq];simp;omega
  have il:isL Ω1 (.cel c):=zi9 (zaE hce)
  have cl1:zfb Ω1 (.cel c)=some (c,S.map sgE):=zeG hce
  have e2:(Ω1.set c (.lst ((S ++ [g]).map sgE)))[c]? = some (.lst ((S ++ [g]).map sgE)):=List.getElem?_set_self hcl
  generalize hΩ2:Ω1.set c (.lst ((S ++ [g]).map sgE))=Ω2 at h2 f2 e2
  have li2:zar Ω2 (.cel c)=some ((S ++ [g]).map sgE):=zaE e2
  have kp:=zkn h2
  have start:∀ f:MS,sSeq (sIf (zaI (vOp gEq (vVar 2) (zhb ["Sums"] 0 "levels"))) (sExp (zgx ["Sums"] 0 "levels")) sNx) (sSeq (sAsg (vFIx ["Sums"] 0 "levels" (vVar 2)) (gN 3)) (sSeq (sExp (vBM zeM (vVar 3) (zac (vVar 1) a0))) f)) [some (.cel s),some (sgE g),some (.int j),none] Ω
    = f [some (.cel s),some (sgE g),some (.int j),some (.cel c)] Ω2:=by
   intro f
   rw [zax r1]
   rw [zax (ρ1:=[some (.cel s),some (sgE g),some (.int j),some (.cel c)]) (Ω':=Ω1) (by simp [vFIx,ow1,hat])]
   rw [zax (ρ1:=[some (.cel s),some (sgE g),some (.int j),some (.cel c)]) (Ω':=Ω2) (by
    rw [← hΩ2,eS]
    generalize S.map sgE=u at cl1 hz1
    simp [il,cl1,hz1])]
  by_cases hov:k ≤ S.length
  ·
   obtain ⟨a,b,t,rfl⟩ : ∃ a b t,S=a :: b :: t:=by
    match S,hov with
    | a :: b :: t,_=>exact ⟨a,b,t,rfl⟩
    | [],q=>simp at q;omega
    | [a],q=>simp at q;omega
   obtain ⟨rfl,rfl,rfl⟩ : L1=L∧cs1=cs∧Ω1=Ω:=by
    rcases d1 with z | z
    ·exact z
    ·exact absurd z.1 (by simp)
   have ha:a ≠ []:=hSn a (by simp)
   have hb:b ≠ []:=hSn b (by simp)
   have hjc2:j < cs1.length:=hjc
   obtain ⟨h3,f3⟩:=h2.rep (j:=j) (S':=t ++ [g]) hjc2
   rw [List.set_set] at h3
   have cut:cutA ((a :: b :: t ++ [g]).map sgE) (some 2) none=(t ++ [g]).map sgE:=by
    have:=zeP ((a :: b :: t ++ [g]).map sgE) 2 (by simp)
    simpa using this
   have hl2:s < Ω2.length:=h2.lt
   have h2':zaD (Ω2 ++ [Cell.lst ((t ++ [g]).map sgE)]) s k m (L1.set j (a :: b :: t ++ [g])) cs1:=by
    refine ⟨by rw [List.getElem?_append_left hl2];exact h2.obj,h2.len,fun i d S hi hS=>?_,h2.nd,h2.ns⟩
    rw [List.getElem?_append_left (h2.clt hi).1]
    exact h2.cel i d S hi hS
   have ow2:=zjn h2' (ρ:=[some (.cel s),some (sgE g),some (.int j),some (.cel c)]) rfl
   have ix:ixN cs1.length (j:Int)=some j:=by
    unfold ixN;simp [hjc]
   have em:(cs1.map A.cel).set j (.cel Ω2.length)=(cs1.set j Ω2.length).map A.cel:=by rw [List.map_set]
   have e3:((Ω2 ++ [Cell.lst ((t ++ [g]).map sgE)]).set s (.ins "Sums" (fsS k m (cs1.set j Ω2.length))))[c]? = some (.lst ((a :: b :: t ++ [g]).map sgE)):=by
    rw [List.getElem?_set_ne (Ne.symm hcs),List.getElem?_append_left (List.getElem?_eq_some_iff.mp e2).1];exact e2
   have hjL:j < L1.length:=by rw [← h1.len];exact hjc
   obtain ⟨Ω5,cs5,q5,h5,f5⟩:=ih (L1.set j (t ++ [g])) (cs1.set j Ω2.length) (j + 1) (a ++ b) _ s h3 (by simp;omega) (by simp;omega) (by simp [ha]) (fun S hS=>by
    rcases List.mem_or_eq_of_mem_set hS with z | z
    ·exact hL1 S z
    ·subst z
     refine ⟨by simp at hSk ⊢;omega,fun q hq=>?_⟩
     rcases List.mem_append.mp hq with z | z
     ·exact hSn q (by simp [z])
     ·simp at z;subst z;exact hg) (by simp;omega)
   generalize hΩ3:(Ω2 ++ [Cell.lst ((t ++ [g]).map sgE)]).set s (.ins "Sums" (fsS k m (cs1.set j Ω2.length)))=Ω3 at h3 f3 e3 q5 f5
   have li3:zar Ω3 (.cel c)=some ((a :: b :: t ++ [g]).map sgE):=zaE e3
   have tg:=zhV ha hb Ω3
   have ff:=((f1.trans f2).trans f3).trans f5
   have eL:(L1.set j (t ++ [g])).take (j + 1) ++ layS k (a ++ b) ((L1.set j (t ++ [g])).drop (j + 1))=L1.take j ++ layS k g (L1.drop j):=by
    rw [zhm (k:=k) (g:=g) hS]
    simp only [layS,if_pos hov]
    have e1:(L1.set j (t ++ [g])).take (j + 1)=L1.take j ++ [t ++ [g]]:=by
     rw [List.take_succ,List.getElem?_set_self hjL,List.take_set_of_le (Nat.le_refl _)];rfl
    rw [List.drop_set_of_lt (by omega),e1]
    simp
   refine ⟨Ω5,cs5,?_,eL ▸ h5,ff⟩
   show trim Ω1 (outR (zbD (zaJ fuel) [some (.cel s),some (sgE g),some (.int j),none] Ω1))=_
   have hneq:Ω5[c]? ≠ Ω1[c]?:=by
    rw [f5.eq c (List.getElem?_eq_some_iff.mp e3).1 hcs (fun z=>by
     obtain ⟨x,hx,ex⟩:=List.getElem_of_mem z
     simp only [List.length_set] at hx
     rw [List.getElem_set] at ex
     split at ex
     ·have:=(List.getElem?_eq_some_iff.mp e2).1;omega
     ·rename_i hne
      exact hne (zk2 h1.nd hc (by rw [← ex];exact List.getElem?_eq_getElem hx))),e3,hce]
    intro z
    have:=congrArg (fun o=>match o with | some (Cell.lst ds)=>ds.length | _=>0) z
    simp at this
   have hb2:zbD (zaJ fuel) [some (.cel s),some (sgE g),some (.int j),none] Ω1=some (.nx,[some (.cel s),some (sgE g),some (.int j),some (.cel c)],Ω5):=by
    unfold zbD
    rw [start]
    have hlk:(k:Int) < ((((a :: b :: t ++ [g]).map sgE).length:Nat):Int):=by simp at hov ⊢;omega
    have hz2:((t ++ [g]).map sgE).length ≤ sizeLine:=by rw [sizeLine_eq];simp at hSk ⊢;omega
    have si3:za7 Ω3 (.cel c)=some ((a :: b :: t ++ [g]).map sgE):=li3
    have a0':atI ((a :: b :: t ++ [g]).map sgE) 0=some (sgE a):=by simp
    have a1':atI ((a :: b :: t ++ [g]).map sgE) 1=some (sgE b):=by simp
    have ej:((j + 1:Nat):Int)=(j:Int) + 1:=by omega
    rw [ej] at q5
    have cnd:(zaI (vOp gGt (vCl gLen (zac (vVar 3) a0)) (vFld ["Sums"] "keep" (vVar 0)))) [some (.cel s),some (sgE g),some (.int j),some (.cel c)] Ω2=some (.ok true,Ω2):=by
     generalize (a :: b :: t ++ [g]).map sgE=u at li2 hlk
     have kp':∀ (f:A→Mo A),mb (gFld ["Sums"] "keep" (.cel s)) f Ω2=f (.int k) Ω2:=fun f=>zbv kp
     have l1:(vCl gLen (zac (vVar 3) a0)) [some (.cel s),some (sgE g),some (.int j),some (.cel c)] Ω2=some (.ok (.int (u.length:Int)),Ω2):=by simp [li2]
     have l2:(vFld ["Sums"] "keep" (vVar 0)) [some (.cel s),some (sgE g),some (.int j),some (.cel c)] Ω2=some (.ok (.int k),Ω2):=by
      simp only [vFld,vVar]
      rw [zbv (x:=A.cel s) (Ω':=Ω2) (by simp)]
      exact kp
     simp only [zaI,vOp]
     rw [zbv (x:=A.bl true) (Ω':=Ω2) (by rw [zbv l1,zbv l2];simp [hlk])]
     simp
    rw [zll cnd]
    rw [zax (ρ1:=[some (.cel s),some (sgE g),some (.int j),some (.cel c)]) (Ω':=Ω3) (by
     rw [← hΩ3]
     have hv:(vSl true (vVar 3) (zga (cI 2)) sl0) [some (.cel s),some (sgE g),some (.int j),some (.cel c)] Ω2=some (.ok (.cel Ω2.length),Ω2 ++ [.lst ((t ++ [g]).map sgE)]):=by
      generalize (a :: b :: t ++ [g]).map sgE=u at li2 cut
      generalize (t ++ [g]).map sgE=w at cut hz2
      simp [li2,cut,hz2]
     unfold sAsg
     rw [zeg hv]
     have ep:=zkO (k:=k) (m:=m) (cs:=cs1) (cs1.set j Ω2.length)
     rw [← em] at ep
     simp only [zjT,ow2]
     simp [ix,ep])]
    have call:(zcg "lay" [("Sums",zba 3 [] (zaJ fuel))] (vVar 0) (zac (vCl (zaP 2 zb5) (zac (vOp gIx (vVar 3) (cI 0)) (zac (vOp gIx (vVar 3) (cI 1)) a0))) (zac (vOp (gAdd false) (vVar 2) (cI 1)) a0))) [some (.cel s),some (sgE g),some (.int j),some (.cel c)] Ω3=some (.ok .non,Ω5):=by
     have ob:=h3.obj
     have lk:(fsS k m (cs1.set j Ω2.length)).lookup ("lay" : Str)=none:=rfl
     generalize (a :: b :: t ++ [g]).map sgE=u at si3 a0' a1'
     simp [zaP,zba,si3,li3,a0',a1',tg,ob,lk,q5,List.lookup]
    unfold sExp
    rw [zeg call]
   rw [hb2]
   simp only [zfE]
   exact zeX hcl hneq
  ·
   have hjL:j < L1.length:=by rw [← h1.len];exact hjc
   have eL:L1.set j (S ++ [g])=L.take j ++ layS k g (L.drop j):=by
    rw [hly,zhm (k:=k) (g:=g) hS,← ht]
    simp only [layS,if_neg hov]
    rw [List.set_eq_take_append_cons_drop,if_pos hjL]
   refine ⟨Ω2,cs1,?_,eL ▸ h2,f1.trans f2⟩
   show trim Ω (outR (zbD (zaJ fuel) [some (.cel s),some (sgE g),some (.int j),none] Ω))=_
   have hb2:zbD (zaJ fuel) [some (.cel s),some (sgE g),some (.int j),none] Ω=some (.nx,[some (.cel s),some (sgE g),some (.int j),some (.cel c)],Ω2):=by
    unfold zbD
    rw [start]
    have hlk:¬ (k:Int) < ((((S ++ [g]).map sgE).length:Nat):Int):=by simp at hov ⊢;omega
    have cnd:(zaI (vOp gGt (vCl gLen (zac (vVar 3) a0)) (vFld ["Sums"] "keep" (vVar 0)))) [some (.cel s),some (sgE g),some (.int j),some (.cel c)] Ω2=some (.ok false,Ω2):=by
     generalize (S ++ [g]).map sgE=u at li2 hlk
     have l1:(vCl gLen (zac (vVar 3) a0)) [some (.cel s),some (sgE g),some (.int j),some (.cel c)] Ω2=some (.ok (.int (u.length:Int)),Ω2):=by simp [li2]
     have l2:(vFld ["Sums"] "keep" (vVar 0)) [some (.cel s),some (sgE g),some (.int j),some (.cel c)] Ω2=some (.ok (.int k),Ω2):=by
      simp only [vFld,vVar]
      rw [zbv (x:=A.cel s) (Ω':=Ω2) (by simp)]
      exact kp
     simp only [zaI,vOp]
     rw [zbv (x:=A.bl false) (Ω':=Ω2) (by rw [zbv l1,zbv l2];simp [hlk])]
     simp
    unfold sIf
    rw [zeg cnd]
    simp
   rw [hb2]
   simp only [zfE]
   rcases d1 with ⟨rfl,rfl,rfl⟩ | ⟨_,hne⟩
   ·refine zeX hcl ?_
    rw [e2,hce]
    intro z
    have:=congrArg (fun o=>match o with | some (Cell.lst ds)=>ds.length | _=>0) z
    simp at this
   ·refine zeX h.lt ?_
    rw [← hΩ2,List.getElem?_set_ne hcs]
    exact hne
end M
namespace M
open PySem L2 V2
theorem zgW {k:Nat}:∀ {L:List (List Sg)} {j:Nat},Lv k j L→∀ S ∈ L,S.length ≤ k∧∀ q ∈ S,q ≠ []
 | [],_,_=>fun S h=>by simp at h
 | T :: r,j,h=>fun S hS=>by
  obtain ⟨h1,h2,h3,h4,h5⟩:=h
  rcases List.mem_cons.mp hS with z | z
  ·subst z
   refine ⟨h3,fun q hq e=>?_⟩
   have:=h1 q hq
   rw [e] at this
   have:=Nat.two_pow_pos j
   simp at *;omega
  ·exact zgW h5 S z
theorem enc1 (x:Int):sgE [x] = .tup [.int 1, .int x, .int x, .int x]:=by simp [sgE,mnL,mxL]
theorem zog {Ω:Sto} {s k m:Nat} {L:List (List Sg)} {cs:List Nat} (hk:2 ≤ k) (hk2:k ≤ 1000) (h:zaD Ω s k m L cs) (hl:Lv k 0 L) (hn:(zdI L).length ≤ 500) (x:Int) :
  ∃ Ω' cs',zcr [.cel s, .int x] Ω=some (.ok .non,Ω')∧zaD Ω' s k (m + 1) (layS k [x] L) cs'∧FrS Ω Ω' s cs cs':=by
 obtain ⟨h1,f1⟩:=h.many (m + 1)
 obtain ⟨Ω2,cs2,q,h2,f2⟩:=zoF k (m + 1) hk hk2 12 L cs 0 [x] _ s h1 (by omega) (by have:=zjm hl hn;omega) (by simp) (zgW hl) (by have:=zjm hl hn;omega)
 simp only [List.take_zero,List.nil_append,List.drop_zero] at h2
 refine ⟨Ω2,cs2,?_,h2,f1.trans f2⟩
 have hne:Ω2[s]? ≠ Ω[s]?:=by
  rw [h2.obj,h.obj]
  intro z
  simp only [fsS,Option.some.injEq,Cell.ins.injEq,true_and,List.cons.injEq,Prod.mk.injEq,Fd.val.injEq,A.int.injEq] at z
  omega
 show trim Ω (outR (zdc [some (.cel s),some (.int x)] Ω))=_
 have ep:=zkq (k:=k) (m:=m) (cs:=cs) (m + 1)
 have em:((m + 1:Nat):Int)=(m:Int) + 1:=by omega
 rw [em] at ep
 have l2:(vFld ["Sums"] "many" (vVar 0)) [some (.cel s),some (.int x)] Ω=some (.ok (.int m),Ω):=by
  simp only [vFld,vVar]
  rw [zbv (x:=A.cel s) (Ω':=Ω) (by simp)]
  exact zf2 h
 have e1:(zfC ["Sums"] "many" (vVar 0) (vOp (gAdd false) (vFld ["Sums"] "many" (vVar 0)) (cI 1))) [some (.cel s),some (.int x)] Ω=some (.nx,[some (.cel s),some (.int x)],Ω.set s (.ins "Sums" (fsS k (m + 1) cs))):=by
  have l3:(vOp (gAdd false) (vFld ["Sums"] "many" (vVar 0)) (cI 1)) [some (.cel s),some (.int x)] Ω=some (.ok (.int ((m:Int) + 1)),Ω):=by
   simp only [vOp]
   rw [zbv l2]
   simp
  unfold zfC
  rw [zeg l3]
  rw [zeg (x:=A.cel s) (Ω':=Ω) (by simp)]
  simp only [h.obj]
  rw [if_pos ⟨by simp,by simp [fsS]⟩,ep]
 have e:zdc [some (.cel s),some (.int x)] Ω=some (.nx,[some (.cel s),some (.int x)],Ω2):=by
  unfold zdc
  rw [zax e1]
  have ob:=h1.obj
  have lk:(fsS k (m + 1) cs).lookup ("lay" : Str)=none:=rfl
  have q':zaJ 12 [.cel s, .tup [.int 1, .int x, .int x, .int x], .int 0] (Ω.set s (.ins "Sums" (fsS k (m + 1) cs)))=some (.ok .non,Ω2):=by rw [← enc1];exact q
  have s4:(4:Nat) ≤ sizeLine:=by decide
  generalize Ω.set s (.ins "Sums" (fsS k (m + 1) cs))=Ω1 at ob q'
  have call:(zcg "lay" [("Sums",zba 3 [] (zaJ 12))] (vVar 0) (zac (vTup (zac (cI 1) (zac (vVar 1) (zac (vVar 1) (zac (vVar 1) a0))))) (zac (cI 0) a0))) [some (.cel s),some (.int x)] Ω1=some (.ok .non,Ω2):=by
   simp [zba,ob,lk,q',s4,List.lookup]
  unfold sExp
  rw [zeg call]
 rw [e]
 simp only [zfE]
 exact zeX h.lt hne
theorem zmx (k:Nat) (Ω:Sto):(zg8 "Sums" 2 zaC [.int k]) Ω=some (.ok (.cel Ω.length),Ω ++ [.ins "Sums" (fsS k 0 [])]):=by
 have e:zaC [.cel Ω.length, .int k] (Ω ++ [.ins "Sums" []])=some (.ok .non,Ω ++ [.ins "Sums" (fsS k 0 [])]):=by
  show trim (Ω ++ [.ins "Sums" []]) (outR (zaY [some (.cel Ω.length),some (.int k)] (Ω ++ [.ins "Sums" []])))=_
  have e1:zaY [some (.cel Ω.length),some (.int k)] (Ω ++ [.ins "Sums" []])=some (.nx,[some (.cel Ω.length),some (.int k)],Ω ++ [.ins "Sums" (fsS k 0 [])]):=by
   unfold zaY
   rw [zax (ρ1:=[some (.cel Ω.length),some (.int k)]) (Ω':=Ω ++ [.ins "Sums" [("keep", .val (.int k))]]) (by simp [putD])]
   rw [zax (ρ1:=[some (.cel Ω.length),some (.int k)]) (Ω':=Ω ++ [.ins "Sums" [("keep", .val (.int k)),("many", .val (.int 0))]]) (by
    have p1:putD ("many" : Str) (Fd.val (.int 0)) ([("keep", .val (.int k))] : List (Str × Fd))=([("keep", .val (.int k)),("many", .val (.int 0))] : List (Str × Fd)):=rfl
    simp [p1])]
   have p2:putD ("levels" : Str) (Fd.lst []) ([("keep", .val (.int k)),("many", .val (.int 0))] : List (Str × Fd))=fsS k 0 []:=rfl
   have ob:objF ["Sums"] 0 [some (.cel Ω.length),some (.int k)] (Ω ++ [.ins "Sums" [("keep", .val (.int k)),("many", .val (.int 0))]])=some (Ω.length,("Sums" : Str),([("keep",Fd.val (.int k)),("many", .val (.int 0))] : List (Str × Fd))):=by
    simp [objF]
   have h0:(0:Nat) ≤ sizeLine:=by decide
   have cf:∀ n,ClF n (.lst []):=fun n=>by simp [ClF,ClL]
   simp only [zkl,ob]
   simp [mkL,h0,p2,cf]
  rw [e1]
  simp only [zfE]
  refine zeX (i:=Ω.length) (by simp) ?_
  simp [fsS]
 simp [zg8,e]
theorem zfH:∀ L:List (List Sg),zay L=L.reverse.flatten
 | []=>rfl
 | S :: r=>by simp [zay,zfH r]
theorem zhq (n:Nat) (gs:List Sg):ClL n (gs.map sgE):=zjk fun a h=>by
 obtain ⟨g,_,rfl⟩:=List.mem_map.mp h
 simp [sgE,Cl,ClL]
theorem zeE (B:Sto) (n s:Nat) (hn:B.length=n) (LV:Cell) (ok:Sto→Prop) (hok:∀ told,ok (B ++ [.lst told,LV])):∀ (ps:List (Nat × List Sg)) (acc:List Sg) (x2:Option A),(∀ p ∈ ps,B[p.1]? = some (.lst (p.2.map sgE)))→acc.length + (ps.flatMap (·.2)).length ≤ 100000 →
  ∃ y2,(y2=x2∨∃ p ∈ ps,y2=some (.cel p.1))∧fFor ok (gN 2) zbc (ps.map fun p=>A.cel p.1) [some (.cel s),some (.cel n),x2] (B ++ [.lst (acc.map sgE),LV])
   = some (.nx,[some (.cel s),some (.cel n),y2],B ++ [.lst ((acc ++ ps.flatMap (·.2)).map sgE),LV])
 | [],acc,x2,_,_=>⟨x2, .inl rfl,by simp [fFor,hok]⟩
 | p :: ps,acc,x2,h,hz=>by
  simp only [List.flatMap_cons,List.length_append] at hz
  obtain ⟨y2,hy,q⟩:=zeE B n s hn LV ok hok ps (acc ++ p.2) (some (.cel p.1)) (fun r hr=>h r (List.mem_cons_of_mem _ hr)) (by rw [List.length_append];omega)
  have hp:=h p (List.mem_cons_self ..)
  have hpl:p.1 < B.length:=(List.getElem?_eq_some_iff.mp hp).1
  refine ⟨y2,?_,?_⟩
  ·rcases hy with z | ⟨r,hr,z⟩
   ·exact .inr ⟨p,List.mem_cons_self ..,z⟩
   ·exact .inr ⟨r,List.mem_cons_of_mem _ hr,z⟩
  ·rw [List.map_cons,List.flatMap_cons,← List.append_assoc,← q]
   refine zbp (hok _) (ρ0:=[some (.cel s),some (.cel n),some (.cel p.1)]) (Ω0:=B ++ [.lst (acc.map sgE),LV]) (by simp) ?_
   have g1:(B ++ [Cell.lst (acc.map sgE),LV])[n]? = some (.lst (acc.map sgE)):=by rw [← hn];exact st_a B _ _
   have g2:(B ++ [Cell.lst (acc.map sgE),LV])[p.1]? = some (.lst (p.2.map sgE)):=by rw [List.getElem?_append_left hpl];exact hp
   have l1:zfb (B ++ [Cell.lst (acc.map sgE),LV]) (.cel n)=some (n,acc.map sgE):=zeG g1
   have il:isL (B ++ [Cell.lst (acc.map sgE),LV]) (.cel n):=zi9 (zaE g1)
   have l2:zdt (B ++ [Cell.lst (acc.map sgE),LV]) (.cel p.1)=some (p.2.map sgE):=by simp [zdt,g2]
   have hz2:(acc.map sgE).length + (p.2.map sgE).length ≤ sizeLine:=by rw [sizeLine_eq];simp;omega
   have e:(acc ++ p.2).map sgE=acc.map sgE ++ p.2.map sgE:=by simp
   have st:(B ++ [Cell.lst (acc.map sgE),LV]).set n (.lst ((acc ++ p.2).map sgE))=B ++ [.lst ((acc ++ p.2).map sgE),LV]:=by rw [← hn];exact zow B _ _ _
   rw [← st,e]
   generalize hΩ:B ++ [Cell.lst (acc.map sgE),LV]=Ω0 at l1 il l2
   generalize acc.map sgE=u at l1 hz2
   generalize p.2.map sgE=w at l2 hz2
   simp [zbc,il,l1,l2,hz2]
theorem zfz {Ω:Sto} {s k m:Nat} {L:List (List Sg)} {cs:List Nat} (h:zaD Ω s k m L cs) (hz:(zay L).length ≤ 100000) (hz2:L.length ≤ 1000):zaq [.cel s] Ω=some (.ok (.lst ((zay L).map sgE)),Ω):=by
 have hs:=h.lt
 let B:Sto:=Ω.set s (.ins "Sums" (putD "levels" (.val (.cel (Ω.length + 1))) (fsS k m cs)))
 have hB:B.length=Ω.length:=by simp [B]
 have cel:∀ p ∈ (cs.zip L).reverse,B[p.1]? = some (.lst (p.2.map sgE)):=fun p hp=>by
  rw [List.mem_reverse] at hp
  obtain ⟨j,hj,e⟩:=List.getElem_of_mem hp
  simp only [List.length_zip] at hj
  have e1:cs[j]? = some p.1:=by rw [← e,List.getElem_zip];exact List.getElem?_eq_getElem (by omega)
  have e2:L[j]? = some p.2:=by rw [← e,List.getElem_zip];exact List.getElem?_eq_getElem (by omega)
  show (Ω.set s _)[p.1]? = _
  rw [List.getElem?_set_ne (Ne.symm (h.clt e1).2)]
  exact h.cel j p.1 p.2 e1 e2
 have fm:(cs.zip L).reverse.flatMap (·.2)=zay L:=by
  rw [zfH,List.flatMap_def,List.map_reverse,List.map_snd_zip (by rw [h.len];exact Nat.le_refl _)]
 have mc:((cs.zip L).reverse.map fun p=>A.cel p.1)=(cs.map A.cel).reverse:=by
  rw [List.map_reverse]
  congr 1
  have:((cs.zip L).map fun p=>A.cel p.1)=((cs.zip L).map (·.1)).map A.cel:=by simp [List.map_map]
  rw [this,List.map_fst_zip (by rw [h.len];exact Nat.le_refl _)]
 have lv:∀ told:List A,zar (B ++ [.lst told, .lst (cs.map A.cel)]) (.cel (Ω.length + 1))=some (cs.map A.cel):=fun told=>zaE (by rw [← hB];exact st_b B _ _)
 obtain ⟨y2,hy,q⟩:=zeE B Ω.length s hB (.lst (cs.map A.cel)) (fun Ω'=>zar Ω' (.cel (Ω.length + 1))=some (cs.map A.cel)) lv (cs.zip L).reverse [] none cel (by rw [fm];simp;omega)
 rw [fm,mc,List.nil_append] at q
 show trim Ω (outR (zbZ [some (.cel s),none,none] Ω))=_
 have e0:(Ω ++ [Cell.lst []])[s]? = some (.ins "Sums" (fsS k m cs)):=by rw [List.getElem?_append_left hs];exact h.obj
 have eB:lent (Ω ++ [Cell.lst []]) s "Sums" "levels" (fsS k m cs) (.lst (cs.map A.cel))=B ++ [.lst [], .lst (cs.map A.cel)]:=by
  show (Ω ++ [Cell.lst []]).set s _ ++ [_]=_
  rw [List.set_append_left _ _ hs]
  simp [B]
 have back:B.set s (.ins "Sums" (fsS k m cs))=Ω:=by
  show (Ω.set s _).set s _=Ω
  rw [List.set_set]
  apply List.ext_getElem?
  intro i
  by_cases hi:s=i
  ·subst hi;rw [List.getElem?_set_self hs,h.obj]
  ·rw [List.getElem?_set_ne hi]
 have hl:zgb 0 "levels" (sFor (zfa (vFld ["Sums"] "levels" (vVar 0))) (gN 2) zbc) [some (.cel s),some (.cel Ω.length),none] (Ω ++ [.lst []]) (.nx,[some (.cel s),some (.cel Ω.length),y2],Ω ++ [.lst ((zay L).map sgE)]):=by
  refine ⟨s, "Sums",fsS k m cs, .lst (cs.map A.cel), .lst (cs.map A.cel),B ++ [.lst ((zay L).map sgE)], .lst (cs.map A.cel), .lst (cs.map A.cel),rfl,e0,rfl,rfl,?_,by simp [hB],?_,rfl,fun i x hi hx=>?_, .inl rfl,fun j d hj=>?_,rfl,?_⟩
  ·rw [eB]
   have fv:(vFld ["Sums"] "levels" (vVar 0)) [some (.cel s),some (.cel Ω.length),none] (B ++ [.lst [], .lst (cs.map A.cel)])=some (.ok (.cel (Ω.length + 1)),B ++ [.lst [], .lst (cs.map A.cel)]):=by
    simp only [vFld,vVar]
    rw [zbv (x:=A.cel s) (Ω':=B ++ [.lst [], .lst (cs.map A.cel)]) (by simp)]
    have:(B ++ [Cell.lst [], .lst (cs.map A.cel)])[s]? = some (.ins "Sums" (putD "levels" (.val (.cel (Ω.length + 1))) (fsS k m cs))):=by
     rw [List.getElem?_append_left (by rw [hB];exact hs)]
     exact List.getElem?_set_self hs
    simp only [gFld,this]
    rfl
   rw [forO (S:=zd8 (.cel (Ω.length + 1)) (cs.map A.cel)) (Ω':=B ++ [.lst [], .lst (cs.map A.cel)]) (by
    simp only [zfa]
    rw [zbv fv]
    simp [lv])]
   have q':=q
   simp only [List.append_assoc,List.cons_append,List.nil_append]
   exact q'
  ·rw [List.getElem?_append_left (by rw [hB];exact hs)]
   have:(Ω ++ [Cell.lst []]).length=Ω.length + 1:=by simp
   rw [this]
   exact List.getElem?_set_self hs
  ·by_cases hil:i < Ω.length
   ·rw [List.getElem?_append_left (by rw [hB];exact hil)] at hx
    have:B[i]? = Ω[i]?:=List.getElem?_set_ne (Ne.symm hi)
    rw [this] at hx
    exact .inl (by rw [List.getElem?_append_left hil];exact hx)
   ·right
    rw [List.getElem?_append_right (by rw [hB];omega)] at hx
    have hi0:i - B.length=0:=by
     have:=(List.getElem?_eq_some_iff.mp hx).1
     simp at this;omega
    rw [hi0] at hx
    simp at hx;subst hx
    exact zhq _ _
  ·match j,hj with
   | 0,hj=>exact .inl hj
   | 1,hj=>exact .inl hj
   | 2,hj =>
    simp at hj
    rcases hy with z | ⟨p,hp,z⟩
    ·rw [z] at hj;cases hj
    ·rw [z] at hj;cases hj
     right
     have:=(List.getElem?_eq_some_iff.mp (cel p hp)).1
     simp only [Cl,List.length_append,List.length_singleton]
     omega
   | j + 3,hj=>simp at hj
  ·show Ω ++ [.lst ((zay L).map sgE)]=(B ++ [Cell.lst ((zay L).map sgE)]).set s (.ins "Sums" (fsS k m cs))
   rw [List.set_append_left _ _ (by rw [hB];exact hs),back]
 have e:zbZ [some (.cel s),none,none] Ω=some (.ret (.lst ((zay L).map sgE)),[some (.cel s),some (.cel Ω.length),y2],Ω ++ [.dead]):=by
  unfold zbZ
  rw [zax (ρ1:=[some (.cel s),some (.cel Ω.length),none]) (Ω':=Ω ++ [.lst []]) (by simp [mkL])]
  rw [zax (zjG hl)]
  generalize (zay L).map sgE=u
  simp
 rw [e]
 simp only [zhx]
 exact zkc (by simp only [Cl];exact zhq _ _)
end M
namespace M
open PySem L2 V2
end M
namespace M
open PySem L2 V2
def Ch (l s:Int):Int→Int→Option Int→List E→Prop
 | lo,hp,_,[]=>lo=s∧hp=s
 | lo,hp,pr,e :: r=>(∀ p,pr=some p→p ≤ e.1)∧(pr=some e.1∨e.2.2 ≤ lo + l + 1)∧lo < e.2.1∧hp < e.2.2∧e.2.1 ≤ e.2.2∧e.2.2 - e.2.1 ≤ l∧Ch l s e.2.1 e.2.2 (some e.1) r
def zmR (es:List E):Prop:=∀ e r,es=e :: r→e.2.1=1∧e.2.2=1
structure GF (s l d:Int) (es:List E):Prop where
 s0:0 ≤ s
 l0:0 ≤ l
 d0:0 ≤ d
 fst:zmR es
 ch:Ch l s 0 0 none es
theorem Ch.bound {l s:Int}:∀ {es:List E} {lo hp:Int} {pr:Option Int},Ch l s lo hp pr es→lo ≤ s∧hp ≤ s
 | [],_,_,_,h=>⟨Int.le_of_eq h.1,Int.le_of_eq h.2⟩
 | e :: r,_,_,_,h=>by
  obtain ⟨_,_,h3,h4,_,_,h7⟩:=h
  have:=Ch.bound h7
  omega
end M
namespace M
open PySem L2 V2
def zoq (l:Int) (k y:E):Bool:=decide (y.1=k.1) || decide (y.2.2 ≤ k.2.1 + l + 1)
end M
namespace V2
open PySem L2
end V2
namespace M
open PySem L2 V2
end M
namespace M
open PySem L2 V2
def okE (s l:Int) (n i:Nat) (p e:E):Prop:=(i=0→e.2.1=1∧e.2.2=1)∧(i + 1=n→e.2.1=s∧e.2.2=s)∧(e.2.1 ≤ e.2.2∧e.2.2 - e.2.1 ≤ l)∧(i ≠ 0→(p.1 ≤ e.1∧p.2.1 < e.2.1∧p.2.2 < e.2.2)∧zoq l p e=true)
instance (s l:Int) (n i:Nat) (p e:E):Decidable (okE s l n i p e):=by unfold okE;infer_instance
end M
namespace M
open PySem L2 V2
end M
namespace M
open PySem L2 V2
end M
namespace M
open PySem L2 V2
end M
namespace M
open PySem L2 V2
end M
namespace M
open PySem L2 V2
end M
namespace M
open PySem L2 V2
end M
namespace M
open PySem L2 V2
end M
namespace M
open PySem L2 V2
theorem zk8 {f g:MS} {ρ ρ1:Ev} {Ω Ω':Sto} {x:Exc} (h:f ρ Ω=some (.exc x,ρ1,Ω')):sSeq f g ρ Ω=some (.exc x,ρ1,Ω'):=by unfold sSeq;rw [h]
theorem zjO {x:Exc} {Ω:Sto}:trim Ω (some (.exc x,Ω))=some (.exc x,Ω):=by simp only [trim];split <;> rfl
end M
namespace M
open PySem L2 V2
theorem sl3 (n a b:Int) (Ω:Sto):gSl false (.tup [.int n, .int a, .int b]) (some 1) none Ω=some (.ok (.tup [.int a, .int b]),Ω):=by
 have h1:HT.sIx 3 0 (some 1)=1:=by decide
 have h2:HT.sIx 3 3 none=3:=rfl
 simp [h1,cutA,h2]
structure Po where
 s:Int
 l:Int
 d:Int
 es:List E
structure Ok (keep:Int) (m:Nat) (p:Po):Prop where
 gf:GF p.s p.l p.d p.es
 kp:keep * p.l ≤ p.d * p.s
 dm:p.d ≤ m
end M
namespace M
open PySem L2 V2
end M
namespace M
open PySem L2 V2
def Tn (R:List Rn):Prop:=∀ r ∈ R,0 ≤ r.2
theorem Tn.head {r:Rn} {R:List Rn} (h:Tn (r :: R)):0 ≤ r.2:=h r (List.mem_cons_self ..)
def Pl (R:List Rn):Int→List E→Prop
 | _,[]=>True
 | z,e :: r=>∃ p,z < p∧und R e.1 < p∧p ≤ upt R e.1∧e.2.1 ≤ p∧p ≤ e.2.2∧Pl R p r
theorem Pl.low {R:List Rn} {z z':Int}:∀ {es:List E},Pl R z es→z' ≤ z→Pl R z' es
 | [],_,_=>trivial
 | _ :: _,⟨p,h,q⟩,l=>⟨p,by omega,q⟩
theorem Pl.sub {R:List Rn}:∀ {es fs:List E} {z:Int},es.Sublist fs→Pl R z fs→Pl R z es
 | _,_,_, .slnil,_=>trivial
 | _,_,_, .cons a s,⟨p,h,q⟩=>Pl.sub s (q.2.2.2.2.low (by omega))
 | _,_,_, .cons_cons a s,⟨p,h,q1,q2,q3,q4,q5⟩=>⟨p,h,q1,q2,q3,q4,Pl.sub s q5⟩
def NfP (es:List E):Prop:=es.Pairwise fun a b=>a.1 ≤ b.1
theorem NfP.next {e f:E} {es:List E} (h:NfP (e :: f :: es)):e.1 ≤ f.1:=(List.pairwise_cons.mp h).1 f (List.mem_cons_self ..)
structure Gd (R:List Rn) (p:Po):Prop where
 tn:Tn R
 gf:GF p.s p.l p.d p.es
 sz:p.s=whole R
 pl:Pl R 0 p.es
end M
namespace M
open PySem L2 V2
end M
namespace M
open PySem L2 V2
inductive Due | row (j:Nat) | pouch (j:Nat) | size | wrong (j:Nat) | good
end M
namespace M
open PySem L2 V2
def zbB:List Sg→Int→Int→Int→Int × Int
 | [],lo,hi,_=>(lo,hi)
 | g :: r,lo,hi,left=>if (g.length:Int) ≤ left then zbB r (lo + g.sum) (hi + g.sum) (left - g.length) else zbB r (lo + left * mnL g) (hi + left * mxL g) 0
def okP (k:Nat):Nat→List Sg→Prop
 | _,[]=>True
 | N,g :: r=>(g.length - 1) * (k - 1) ≤ N∧okP k (N + g.length) r
theorem ziU {k:Nat}:∀ {a b:List Sg} {N:Nat},okP k N a→okP k (N + a.flatten.length) b→okP k N (a ++ b)
 | [],b,N,_,h=>by simpa using h
 | g :: a,b,N,h,h2=>⟨h.1,ziU h.2 (by simpa [Nat.add_assoc] using h2)⟩
theorem zkS {k:Nat} (hk:1 ≤ k):∀ {L:List (List Sg)} {j N:Nat},Lv k j L→(2 ^ j - 1) * (k - 1) ≤ N→okP k N (zay L).reverse
 | [],_,_,_,_=>trivial
 | S :: r,j,N,h,hN=>by
  obtain ⟨h1,h2,h3,h4,h5⟩:=h
  simp only [zay,List.reverse_append]
  have hall:∀ (T:List Sg) (N:Nat),(∀ g ∈ T,g.length=2 ^ j)→(2 ^ j - 1) * (k - 1) ≤ N→okP k N T:=by
   intro T
   induction T with
   | nil=>intro _ _ _;trivial
   | cons g T ih =>
    intro N hg hn
    exact ⟨by rw [hg g (by simp)];exact hn,ih _ (fun q hq=>hg q (by simp [hq])) (by omega)⟩
  refine ziU (hall S.reverse N (fun g hg=>h1 g (by simpa using hg)) hN) ?_
  by_cases hr:r=[]
  ·subst hr;simp [zay,okP]
  ·refine zkS hk h5 ?_
   have hs:=h4 hr
   have e:S.reverse.flatten.length=S.length * 2 ^ j:=by
    have:∀ T:List Sg,(∀ g ∈ T,g.length=2 ^ j)→T.flatten.length=T.length * 2 ^ j:=by
     intro T
     induction T with
     | nil=>intro _;simp
     | cons g T ih =>
      intro hg
      rw [List.flatten_cons,List.length_append,ih (fun q hq=>hg q (by simp [hq])),hg g (by simp),List.length_cons,Nat.add_mul];omega
    rw [this S.reverse (fun g hg=>h1 g (by simpa using hg)),List.length_reverse]
   rw [e]
   have p:=Nat.two_pow_pos j
   have e2:(2 ^ (j + 1) - 1) * (k - 1)=(2 ^ j - 1) * (k - 1) + (k - 1) * 2 ^ j:=by
    rw [Nat.pow_succ]
    have:2 ^ j * 2 - 1=(2 ^ j - 1) + 2 ^ j:=by omega
    rw [this,Nat.add_mul,Nat.mul_comm (2 ^ j) (k - 1)]
   rw [e2]
   have:(k - 1) * 2 ^ j ≤ S.length * 2 ^ j:=Nat.mul_le_mul_right _ (by omega)
   omega
def rowG (gs:List Sg):List Int:=gs.reverse.flatten
theorem zi6 (g:Sg) (r:List Sg):rowG (g :: r)=rowG r ++ g:=by simp [rowG]
theorem zeo:∀ (gs:List Sg) (lo hi:Int) (left:Nat),left ≤ (rowG gs).length→(∀ g ∈ gs,g ≠ []) →
  (zbB gs lo hi left).1 - lo ≤ ((rowG gs).drop ((rowG gs).length - left)).sum∧((rowG gs).drop ((rowG gs).length - left)).sum ≤ (zbB gs lo hi left).2 - hi
 | [],lo,hi,left,h,_=>by simp [rowG,zbB]
 | g :: r,lo,hi,left,h,hn=>by
  rw [zi6] at h ⊢
  simp only [List.length_append] at h ⊢
  by_cases c:g.length ≤ left
  ·have e:((left - g.length:Nat):Int)=(left:Int) - g.length:=by omega
   have ih:=zeo r (lo + g.sum) (hi + g.sum) (left - g.length) (by omega) fun q hq=>hn q (List.mem_cons_of_mem _ hq)
   rw [e] at ih
   have e2:(rowG r ++ g).drop ((rowG r).length + g.length - left)=(rowG r).drop ((rowG r).length - (left - g.length)) ++ g:=by
    rw [List.drop_append_of_le_length (by omega)]
    congr 2
    omega
   rw [e2,List.sum_append]
   simp only [zbB,if_pos (show (g.length:Int) ≤ left by omega)]
   omega
  ·have e2:(rowG r ++ g).drop ((rowG r).length + g.length - left)=g.drop (g.length - left):=by
    rw [List.drop_append]
    have:(rowG r).drop ((rowG r).length + g.length - left)=[]:=List.drop_of_length_le (by omega)
    rw [this,List.nil_append]
    congr 1
    omega
   rw [e2]
   simp only [zbB,if_neg (show ¬ (g.length:Int) ≤ left by omega)]
   have ih:=zeo r (lo + left * mnL g) (hi + left * mxL g) 0 (by omega) fun q hq=>hn q (List.mem_cons_of_mem _ hq)
   simp only [Nat.sub_zero,List.drop_length,List.sum_nil] at ih
   have b:=zkI (lo:=mnL g) (hi:=mxL g) (g:=g.drop (g.length - left)) fun x hx=>zmO (List.mem_of_mem_drop hx)
   have el:((g.drop (g.length - left)).length:Int)=left:=by simp;omega
   rw [el] at b
   simp only [Int.natCast_zero] at ih
   omega
theorem zfo:∀ (gs:List Sg) (lo hi:Int),(∀ g ∈ gs,g ≠ [])→zbB gs lo hi 0=(lo,hi)
 | [],lo,hi,_=>rfl
 | g :: r,lo,hi,h=>by
  have hg:g ≠ []:=h g (by simp)
  have:¬ (g.length:Int) ≤ 0:=by
   cases g with
   | nil=>exact absurd rfl hg
   | cons x t=>simp only [List.length_cons];omega
  simp only [zbB,if_neg this,Int.zero_mul,Int.add_zero]
  exact zfo r lo hi fun q hq=>h q (List.mem_cons_of_mem _ hq)
theorem zf9:∀ (a b:List Sg) (lo hi:Int),(∀ g ∈ b,g ≠ [])→zbB (a ++ b) lo hi (a.flatten.length:Int)=(lo + a.flatten.sum,hi + a.flatten.sum)
 | [],b,lo,hi,h=>by simpa using zfo b lo hi h
 | g :: a,b,lo,hi,h=>by
  simp only [List.cons_append,zbB,List.flatten_cons,List.length_append]
  rw [if_pos (by omega)]
  have e:((g.length + a.flatten.length:Nat):Int) - g.length=(a.flatten.length:Nat):=by omega
  rw [e,zf9 a b _ _ h,List.sum_append]
  simp [Int.add_assoc]
theorem zkM (g:Sg) (p:Int) (h0:0 ≤ p) (h1:p ≤ 100000) (Ω:Sto):za4 [sgE g, .int p] Ω=some (.ok (if p=(g.length:Int) then .tup [.int g.sum, .int g.sum] else .tup [.int (p * mnL g), .int (p * mxL g)]),Ω):=by
 have s2:(2:Nat) ≤ sizeLine:=by decide
 have c:∀ x,CMul p x:=fun x=>zeb (by omega) (by omega)
 by_cases e:p=(g.length:Int)
 ·subst e
  simp [za4,zcz,sgE,s2]
 ·simp [za4,zcz,sgE,s2,e,c]
theorem zeB (ok:Sto→Prop) (Ω:Sto) (hok:ok Ω) (x0 x1:Option A):∀ (gs:List Sg) (lo hi:Int) (left:Nat) (y5 y6 y7:Option A),left ≤ 100000→∃ z4 z5 z6 z7,
  fFor ok (gN 5) zbQ (gs.map sgE) [x0,x1,some (.int lo),some (.int hi),some (.int left),y5,y6,y7] Ω=some (.nx,[x0,x1,some (.int (zbB gs lo hi left).1),some (.int (zbB gs lo hi left).2),z4,z5,z6,z7],Ω)
 | [],lo,hi,left,y5,y6,y7,_=>⟨some (.int left),y5,y6,y7,by simp [fFor,hok,zbB]⟩
 | g :: r,lo,hi,left,y5,y6,y7,hl=>by
  have s2:(2:Nat) ≤ sizeLine:=by decide
  have hi0:∀ Ω,za7 Ω (sgE g)=some [.int g.length, .int g.sum, .int (mnL g), .int (mxL g)]:=fun _=>rfl
  by_cases c:g.length ≤ left
  ·obtain ⟨z4,z5,z6,z7,q⟩:=zeB ok Ω hok x0 x1 r (lo + g.sum) (hi + g.sum) (left - g.length) (some (sgE g)) (some (.int g.length)) (some (.tup [.int g.sum, .int g.sum])) (by omega)
   have e:((left - g.length:Nat):Int)=(left:Int) - g.length:=by omega
   rw [e] at q
   refine ⟨z4,z5,z6,z7,?_⟩
   have sm:=fun Ω=>zkM g g.length (by omega) (by omega) Ω
   simp only [if_true] at sm
   have em:min (left:Int) (g.length:Int)=g.length:=by omega
   simp only [zbB,if_pos (show (g.length:Int) ≤ left by omega)]
   rw [← q,List.map_cons]
   refine zbp hok (ρ0:=[x0,x1,some (.int lo),some (.int hi),some (.int left),some (sgE g),y6,y7]) (Ω0:=Ω) (by simp) ?_
   generalize sgE g=G at sm hi0
   simp [zbQ,hi0,em,zaP,sm]
  ·obtain ⟨z4,z5,z6,z7,q⟩:=zeB ok Ω hok x0 x1 r (lo + left * mnL g) (hi + left * mxL g) 0 (some (sgE g)) (some (.int left)) (some (.tup [.int (left * mnL g), .int (left * mxL g)])) (by omega)
   refine ⟨z4,z5,z6,z7,?_⟩
   have sm:=fun Ω=>zkM g left (by omega) (by omega) Ω
   rw [if_neg (show ¬ (left:Int)=g.length by omega)] at sm
   have em:min (left:Int) (g.length:Int)=left:=by omega
   simp only [zbB,if_neg (show ¬ (g.length:Int) ≤ left by omega)]
   simp only [Int.natCast_zero] at q
   rw [← q,List.map_cons]
   refine zbp hok (ρ0:=[x0,x1,some (.int lo),some (.int hi),some (.int left),some (sgE g),y6,y7]) (Ω0:=Ω) (by simp) ?_
   generalize sgE g=G at sm hi0
   simp [zbQ,hi0,em,zaP,sm]
theorem zkT {Ω:Sto} {s k m:Nat} {L:List (List Sg)} {cs:List Nat} (h:zaD Ω s k m L cs) (hz:(zay L).length ≤ 100000) (hz2:L.length ≤ 1000) (many:Nat) (h1:1 ≤ many) (h2:many ≤ m) (h3:many ≤ 100000) :
  zaF [.cel s, .int many] Ω=some (.ok (.tup [.int (zbB (zay L).reverse 0 0 many).1, .int (zbB (zay L).reverse 0 0 many).2]),Ω):=by
 have bl:=zfz h hz hz2
 have s2:(2:Nat) ≤ sizeLine:=by decide
 obtain ⟨z4,z5,z6,z7,q⟩:=zeB (fun Ω'=>zar Ω' (.lst ((zay L).map sgE))=some ((zay L).map sgE)) Ω rfl (some (.cel s)) (some (.int many)) (zay L).reverse 0 0 many none none none h3
 show trim Ω (outR (zbH [some (.cel s),some (.int many),none,none,none,none,none,none] Ω))=_
 have l2:(vFld ["Sums"] "many" (vVar 0)) [some (.cel s),some (.int many),none,none,none,none,none,none] Ω=some (.ok (.int m),Ω):=by
  simp only [vFld,vVar]
  rw [zbv (x:=A.cel s) (Ω':=Ω) (by simp)]
  exact zf2 h
 have call:(zcg "blocks" [("Sums",zba 1 [] zaq)] (vVar 0) a0) [some (.cel s),some (.int many),some (.int 0),some (.int 0),some (.int many),none,none,none] Ω=some (.ok (.lst ((zay L).map sgE)),Ω):=by
  have ob:=h.obj
  have lk:(fsS k m cs).lookup ("blocks" : Str)=none:=rfl
  generalize (zay L).map sgE=u at bl
  simp [zba,ob,lk,bl,List.lookup]
 unfold zbH
 rw [zax (ρ1:=[some (.cel s),some (.int many),none,none,none,none,none,none]) (Ω':=Ω) (by
  have n1:¬ (many:Int) < 1:=by omega
  have n2:¬ (m:Int) < many:=by omega
  have t2:(zaI (vOp gGt (vVar 1) (vFld ["Sums"] "many" (vVar 0)))) [some (.cel s),some (.int many),none,none,none,none,none,none] Ω=some (.ok false,Ω):=by
   simp only [zaI,vOp]
   rw [zbv (x:=A.bl false) (Ω':=Ω) (by
    rw [zbv (x:=A.int many) (Ω':=Ω) (by simp),zbv l2]
    simp [n2])]
   simp
  have t1:(zaI (vOp gLt (vVar 1) (cI 1))) [some (.cel s),some (.int many),none,none,none,none,none,none] Ω=some (.ok false,Ω):=by simp [n1]
  unfold sIf
  rw [zeg (x:=false) (Ω':=Ω) (by
   simp only [vOrT]
   rw [zbv t1]
   simpa using t2)]
  simp)]
 rw [zax (ρ1:=[some (.cel s),some (.int many),some (.int 0),none,none,none,none,none]) (Ω':=Ω) (by simp)]
 rw [zax (ρ1:=[some (.cel s),some (.int many),some (.int 0),some (.int 0),none,none,none,none]) (Ω':=Ω) (by simp)]
 rw [zax (ρ1:=[some (.cel s),some (.int many),some (.int 0),some (.int 0),some (.int many),none,none,none]) (Ω':=Ω) (by simp)]
 rw [zax (ρ1:=[some (.cel s),some (.int many),some (.int (zbB (zay L).reverse 0 0 many).1),some (.int (zbB (zay L).reverse 0 0 many).2),z4,z5,z6,z7]) (Ω':=Ω) (by
  rw [forO (S:=zd8 (.lst ((zay L).map sgE)) ((zay L).map sgE)) (Ω':=Ω) (by
   simp only [zfa]
   rw [zbv call]
   simp)]
  rw [List.map_reverse] at q
  exact q)]
 simp [s2]
theorem zi8 {Ω:Sto} {s k m:Nat} {L:List (List Sg)} {cs:List Nat} (h:zaD Ω s k m L cs) (many:Int) (h1:many < 1∨(m:Int) < many) :
  zaF [.cel s, .int many] Ω=some (.exc ⟨"NoPlace",[]⟩,Ω):=by
 have s1:(1:Nat) ≤ sizeLine:=by decide
 show trim Ω (outR (zbH [some (.cel s),some (.int many),none,none,none,none,none,none] Ω))=_
 have l2:(vFld ["Sums"] "many" (vVar 0)) [some (.cel s),some (.int many),none,none,none,none,none,none] Ω=some (.ok (.int m),Ω):=by
  simp only [vFld,vVar]
  rw [zbv (x:=A.cel s) (Ω':=Ω) (by simp)]
  exact zf2 h
 have tt:(vOrT (zaI (vOp gLt (vVar 1) (cI 1))) (zaI (vOp gGt (vVar 1) (vFld ["Sums"] "many" (vVar 0))))) [some (.cel s),some (.int many),none,none,none,none,none,none] Ω=some (.ok true,Ω):=by
  by_cases c:many < 1
  ·simp only [vOrT]
   rw [zbv (x:=true) (Ω':=Ω) (by simp [c])]
   simp
  ·have c2:(m:Int) < many:=by omega
   have t2:(zaI (vOp gGt (vVar 1) (vFld ["Sums"] "many" (vVar 0)))) [some (.cel s),some (.int many),none,none,none,none,none,none] Ω=some (.ok true,Ω):=by
    simp only [zaI,vOp]
    rw [zbv (x:=A.bl true) (Ω':=Ω) (by
     rw [zbv (x:=A.int many) (Ω':=Ω) (by simp),zbv l2]
     simp [c2])]
    simp
   simp only [vOrT]
   rw [zbv (x:=false) (Ω':=Ω) (by simp [c])]
   simpa using t2
 have e:zbH [some (.cel s),some (.int many),none,none,none,none,none,none] Ω=some (.exc ⟨"NoPlace",[]⟩,[some (.cel s),some (.int many),none,none,none,none,none,none],Ω):=by
  unfold zbH
  rw [zk8 (x:=⟨"NoPlace",[]⟩) (ρ1:=[some (.cel s),some (.int many),none,none,none,none,none,none]) (Ω':=Ω) (by
   rw [zll tt]
   simp [s1])]
 rw [e]
 simp [zjO]
end M
namespace M
open PySem L2 V2
theorem zjZ (x0 x2 y11:Option A) (k many lo hi left len sm mn mx:Int) (c:len ≤ left) (Ω:Sto):zas [x0,some (.int k),x2,some (.int many),some (.int lo),some (.int hi),some (.int left),some (.int len),some (.int sm),some (.int mn),some (.int mx),y11] Ω
  = some (.nx,[x0,some (.int k),x2,some (.int many),some (.int (lo + sm)),some (.int (hi + sm)),some (.int (left - len)),some (.int len),some (.int sm),some (.int mn),some (.int mx),y11],Ω):=by
 simp [zas,c]
theorem zkh (x0 x2 y11:Option A) (k many lo hi left len sm mn mx:Int) (c:¬ len ≤ left) (c2:¬ 0 < left) (Ω:Sto):zas [x0,some (.int k),x2,some (.int many),some (.int lo),some (.int hi),some (.int left),some (.int len),some (.int sm),some (.int mn),some (.int mx),y11] Ω
  = some (.nx,[x0,some (.int k),x2,some (.int many),some (.int lo),some (.int hi),some (.int left),some (.int len),some (.int sm),some (.int mn),some (.int mx),y11],Ω):=by
 simp [zas,c,c2]
theorem zkg (x0 x2 y11:Option A) (k many lo hi left len sm mn mx k1:Int) (hk:k - 1=k1) (c:¬ len ≤ left) (c2:0 < left) (m1:∀ x,CMul left x) (m2:∀ x,CMul x k1) (hb:¬ many ≤ (len - 1) * k1) (Ω:Sto):zas [x0,some (.int k),x2,some (.int many),some (.int lo),some (.int hi),some (.int left),some (.int len),some (.int sm),some (.int mn),some (.int mx),y11] Ω
  = some (.nx,[x0,some (.int k),x2,some (.int many),some (.int (lo + left * mn)),some (.int (hi + left * mx)),some (.int 0),some (.int len),some (.int sm),some (.int mn),some (.int mx),y11],Ω):=by
 simp [zas,c,c2,hk,m1,m2,hb]
theorem zgt (ok:Sto→Prop) (Ω:Sto) (hok:ok Ω) (k many:Nat) (hk:1 ≤ k) (hk2:k ≤ 1000) (hm:many ≤ 100000) (x0 x2:Option A):∀ (gs:List Sg) (lo hi:Int) (left N:Nat) (y7 y8 y9 y10 y11:Option A),left ≤ 100000→okP k N gs→(0 < left→N + left=many)→(∀ g ∈ gs,g ≠ [])→∃ z6 z7 z8 z9 z10 z11,
  fFor ok (zjM 4 (zdg (gN 7) (zdg (gN 8) (zdg (gN 9) (zdg (gN 10) zli))))) zas (gs.map sgE) [x0,some (.int k),x2,some (.int many),some (.int lo),some (.int hi),some (.int left),y7,y8,y9,y10,y11] Ω
   = some (.nx,[x0,some (.int k),x2,some (.int many),some (.int (zbB gs lo hi left).1),some (.int (zbB gs lo hi left).2),z6,z7,z8,z9,z10,z11],Ω)
 := by
 intro gs
 induction gs with
 | nil=>intro lo hi left N y7 y8 y9 y10 y11 _ _ _ _;exact ⟨some (.int left),y7,y8,y9,y10,y11,by simp [fFor,hok,zbB]⟩
 | cons g r ih =>
  intro lo hi left N y7 y8 y9 y10 y11 hl hp hN hg
  have hg0:1 ≤ g.length:=by
   have:=hg g (by simp)
   cases g with
   | nil=>exact absurd rfl this
   | cons x t=>simp
  have hg':∀ q ∈ r,q ≠ []:=fun q hq=>hg q (List.mem_cons_of_mem _ hq)
  obtain ⟨hp1,hp2⟩:=hp
  by_cases c:g.length ≤ left
  ·obtain ⟨z6,z7,z8,z9,z10,z11,q⟩:=ih (lo + g.sum) (hi + g.sum) (left - g.length) (N + g.length) (some (.int g.length)) (some (.int g.sum)) (some (.int (mnL g))) (some (.int (mxL g))) y11 (by omega) hp2 (fun h=>by have:=hN (by omega);omega) hg'
   refine ⟨z6,z7,z8,z9,z10,z11,?_⟩
   have e:((left - g.length:Nat):Int)=(left:Int) - g.length:=by omega
   rw [e] at q
   simp only [zbB,if_pos (show (g.length:Int) ≤ left by omega)]
   rw [← q,List.map_cons]
   refine zbp hok (ρ0:=[x0,some (.int k),x2,some (.int many),some (.int lo),some (.int hi),some (.int left),some (.int g.length),some (.int g.sum),some (.int (mnL g)),some (.int (mxL g)),y11]) (Ω0:=Ω) (by simp [sgE]) ?_
   exact zjZ _ _ _ _ _ _ _ _ _ _ _ _ (by omega) Ω
  ·have c':¬ (g.length:Int) ≤ left:=by omega
   obtain ⟨z6,z7,z8,z9,z10,z11,q⟩:=ih (lo + left * mnL g) (hi + left * mxL g) 0 (N + g.length) (some (.int g.length)) (some (.int g.sum)) (some (.int (mnL g))) (some (.int (mxL g))) y11 (by omega) hp2 (fun h=>by omega) hg'
   refine ⟨z6,z7,z8,z9,z10,z11,?_⟩
   simp only [Int.natCast_zero] at q
   simp only [zbB,if_neg c']
   rw [← q,List.map_cons]
   refine zbp hok (ρ0:=[x0,some (.int k),x2,some (.int many),some (.int lo),some (.int hi),some (.int left),some (.int g.length),some (.int g.sum),some (.int (mnL g)),some (.int (mxL g)),y11]) (Ω0:=Ω) (by simp [sgE]) ?_
   by_cases c2:left=0
   ·subst c2
    have:=zkh x0 x2 y11 k many lo hi 0 g.length g.sum (mnL g) (mxL g) (by omega) (by omega) Ω
    simpa using this
   ·have c3:(0:Int) < left:=by omega
    have m1:∀ x,CMul (left:Int) x:=fun x=>zeb (by omega) (by omega)
    have m2:∀ x,CMul x ((k:Int) - 1):=fun x=>ziY (by omega) (by omega)
    have hb:¬ (many:Int) ≤ ((g.length:Int) - 1) * ((k:Int) - 1):=by
     have:=hN (by omega)
     have e1:((g.length:Int) - 1) * ((k:Int) - 1)=(((g.length - 1) * (k - 1):Nat):Int):=by
      rw [Int.natCast_mul]
      congr 1 <;> omega
     rw [e1];omega
    exact zkg _ _ _ _ _ _ _ _ _ _ _ _ _ rfl c' c3 m1 m2 hb Ω
theorem zjr (x0 x1 x2 x3 x4 x5 x6 x7 x8 x9 x10:Option A) (a b:Int) (Ω:Sto):zbl [x0,x1,x2,x3,x4,x5,x6,x7,x8,x9,x10,some (.tup [.int a, .int b])] Ω=some (.ok (.lst []),Ω):=by
 have:=zhO (n:=1) (js:=[]) (fi:=vSeq (vVar 11)) (g:=gN 0) (c:=(vOrT (zhd (zaI (vCl gIs1 (zac (vVar 0) (zac (cT "int") a0))))) (zaI (vCl gIs1 (zac (vVar 0) (zac (cT "bool") a0)))))) (e:=vVar 0) (ρ:=[x0,x1,x2,x3,x4,x5,x6,x7,x8,x9,x10,some (.tup [.int a, .int b])]) (Ω:=Ω) (Ω0:=Ω) (S:=srcOf (.tup [.int a, .int b]) [.int a, .int b]) (fun _=>none) (fun ρ=>∃ y,ρ=[y]) (by simp) (fun ys=>by simp [srcOf]) ⟨none,by simp [lcEv]⟩ (by simp [srcOf])
  (fun x hx ρ hP ys=>by
   obtain ⟨y,rfl⟩:=hP
   simp only [srcOf,List.mem_cons,List.not_mem_nil,or_false] at hx
   obtain ⟨i,rfl⟩ : ∃ i,x = .int i:=by rcases hx with z | z <;> exact ⟨_,z⟩
   exact ⟨[some (.int i)],⟨_,rfl⟩,by simp, .inr ⟨rfl,by simp⟩⟩) (by simp [ClL])
 simpa [zbl,srcOf] using this
abbrev cs74:List Str:=["RankError", "NoRow", "NoPlace", "NoPouch", "NoSize", "Wrong", "NoTimes", "Unlike", "NoText"]
structure St74 (Ω:Sto) (k:Nat) (row:List Int) (L:List (List Sg)) (cs:List Nat):Prop where
 at_:zaD Ω 0 k row.length L cs
 lv:Lv k 0 L
 fl:zdI L=row
 rowc:Ω[1]? = some (.lst (row.map A.int))
 no:1 ∉ cs
 few:row.length ≤ 400
section
variable {Ω:Sto} {k:Nat} {row:List Int} {L:List (List Sg)} {cs:List Nat}
theorem zfT:∀ {L:List (List Sg)} {j:Nat},Lv k j L→∀ g ∈ zay L,g ≠ []:=fun {L j} h g hg=>by
 rw [zfH] at hg
 obtain ⟨S,hS,hgS⟩:=List.mem_flatten.mp hg
 exact (zgW h S (by simpa using hS)).2 g hgS
theorem zjc:∀ (gs:List Sg),(∀ g ∈ gs,g ≠ [])→gs.length ≤ gs.flatten.length
 | [],_=>by simp
 | g :: r,h=>by
  have a:=zjc r fun q hq=>h q (List.mem_cons_of_mem _ hq)
  have b:=h g (by simp)
  have:1 ≤ g.length:=by cases g with | nil=>exact absurd rfl b | cons x t=>simp
  simp only [List.length_cons,List.flatten_cons,List.length_append];omega
theorem St74.fB (h:St74 Ω k row L cs):(zay L).length ≤ 400:=by
 have:=zjc (zay L) (zfT h.lv)
 have e:(zay L).flatten=row:=h.fl
 rw [e] at this
 have:=h.few
 omega
theorem St74.fL (h:St74 Ω k row L cs):L.length ≤ 9:=zjm h.lv (by rw [h.fl];have:=h.few;omega)
theorem St74.rowG (h:St74 Ω k row L cs):rowG (zay L).reverse=row:=by
 unfold M.rowG;rw [List.reverse_reverse];exact h.fl
theorem zf7 (hk:2 ≤ k) (hk2:k ≤ 1000) (h:St74 Ω k row L cs) (many:Nat) (h1:1 ≤ many) (h2:many ≤ row.length):zaZ [.cel 0, .int k, .cel 1, .int many] Ω=some (.ok (.bl true),Ω):=by
 have hf:=h.few
 have bl:=zfz h.at_ (by have:=h.fB;omega) (by have:=h.fL;omega)
 have ls:=zkT h.at_ (by have:=h.fB;omega) (by have:=h.fL;omega) many h1 h2 (by omega)
 have s2:(2:Nat) ≤ sizeLine:=by decide
 obtain ⟨z6,z7,z8,z9,z10,z11,q⟩:=zgt (fun Ω'=>zar Ω' (.lst ((zay L).map sgE))=some ((zay L).map sgE)) Ω rfl k many (by omega) hk2 (by omega) (some (.cel 0)) (some (.cel 1)) (zay L).reverse 0 0 many 0 none none none none none (by omega) (zkS (by omega) h.lv (by simp)) (fun _=>by omega) (fun g hg=>zfT h.lv g (by simpa using hg))
 have bd:=zeo (zay L).reverse 0 0 many (by rw [h.rowG];exact h2) (fun g hg=>zfT h.lv g (by simpa using hg))
 rw [h.rowG] at bd
 generalize hlo:(zbB (zay L).reverse 0 0 many).1=lo at ls q bd
 generalize hhi:(zbB (zay L).reverse 0 0 many).2=hi at ls q bd
 show trim Ω (outR (zcf [some (.cel 0),some (.int k),some (.cel 1),some (.int many),none,none,none,none,none,none,none,none] Ω))=_
 have ob:=h.at_.obj
 have lk1:(fsS k row.length cs).lookup ("blocks" : Str)=none:=rfl
 have lk2:(fsS k row.length cs).lookup ("last" : Str)=none:=rfl
 have call1:(zcg "blocks" [("Sums",zba 1 [] zaq)] (vVar 0) a0) [some (.cel 0),some (.int k),some (.cel 1),some (.int many),some (.int 0),some (.int 0),some (.int many),none,none,none,none,none] Ω=some (.ok (.lst ((zay L).map sgE)),Ω):=by
  generalize (zay L).map sgE=u at bl
  simp [zba,ob,lk1,bl,List.lookup]
 have call2:(zcg "last" [("Sums",zba 2 [] zaF)] (vVar 0) (zac (vVar 3) a0)) [some (.cel 0),some (.int k),some (.cel 1),some (.int many),some (.int lo),some (.int hi),z6,z7,z8,z9,z10,z11] Ω=some (.ok (.tup [.int lo, .int hi]),Ω):=by
  simp [zba,ob,lk2,ls,List.lookup]
 have li:zar Ω (.cel 1)=some (row.map A.int):=zaE h.rowc
 have cu:=zeP (row.map A.int) (row.length - many) (by simp)
 have ec:((row.length - many:Nat):Int)=(row.length:Int) - many:=by omega
 rw [ec,← List.map_drop] at cu
 have io:=zfd (row.drop (row.length - many))
 have hz:((row.drop (row.length - many)).map A.int).length ≤ sizeLine:=by rw [sizeLine_eq];simp;omega
 have ne1:gNe (.tup [.int lo, .int hi]) (.tup [.int lo, .int hi]) Ω=some (.ok (.bl false),Ω):=zfw (by simp [pur])
 have ne2:gNe (.lst []) (.lst []) Ω=some (.ok (.bl false),Ω):=zfw (by simp [pur])
 have qq:=fun a0 a1 a2 a3 a4 a5 a6 a7 a8 a9 a10=>zjr a0 a1 a2 a3 a4 a5 a6 a7 a8 a9 a10 lo hi Ω
 unfold zcf
 rw [zax (ρ1:=[some (.cel 0),some (.int k),some (.cel 1),some (.int many),some (.int 0),none,none,none,none,none,none,none]) (Ω':=Ω) (by simp)]
 rw [zax (ρ1:=[some (.cel 0),some (.int k),some (.cel 1),some (.int many),some (.int 0),some (.int 0),none,none,none,none,none,none]) (Ω':=Ω) (by simp)]
 rw [zax (ρ1:=[some (.cel 0),some (.int k),some (.cel 1),some (.int many),some (.int 0),some (.int 0),some (.int many),none,none,none,none,none]) (Ω':=Ω) (by simp)]
 rw [zax (ρ1:=[some (.cel 0),some (.int k),some (.cel 1),some (.int many),some (.int lo),some (.int hi),z6,z7,z8,z9,z10,z11]) (Ω':=Ω) (by
  rw [forO (S:=zd8 (.lst ((zay L).map sgE)) ((zay L).map sgE)) (Ω':=Ω) (by
   simp only [zfa]
   rw [zbv call1]
   simp)]
  rw [List.map_reverse] at q
  exact q)]
 rw [zax (ρ1:=[some (.cel 0),some (.int k),some (.cel 1),some (.int many),some (.int lo),some (.int hi),z6,z7,z8,z9,z10,some (.tup [.int lo, .int hi])]) (Ω':=Ω) (by
  unfold sAsg
  rw [zeg call2]
  simp)]
 rw [zax (ρ1:=[some (.cel 0),some (.int k),some (.cel 1),some (.int many),some (.int lo),some (.int hi),z6,z7,z8,z9,z10,some (.tup [.int lo, .int hi])]) (Ω':=Ω) (by simp [ne1,s2])]
 rw [zax (ρ1:=[some (.cel 0),some (.int k),some (.cel 1),some (.int many),some (.int lo),some (.int hi),z6,z7,z8,z9,z10,some (.tup [.int lo, .int hi])]) (Ω':=Ω) (by simp [qq,ne2])]
 have b1:lo ≤ (row.drop (row.length - many)).sum:=by omega
 have b2:(row.drop (row.length - many)).sum ≤ hi:=by omega
 have hlen:(row.map A.int).length=row.length:=by simp
 generalize hu:(row.drop (row.length - many)).map A.int=u at cu io hz
 generalize hr:row.map A.int=rw at li cu hlen
 simp [li,hlen,cu,hz,io,b1,b2]
theorem zg1 {m:Nat} (h:zaD Ω 0 k m L cs) (many:Int) (h1:many < 1∨(m:Int) < many):zbO [.cel 0, .int many] Ω=some (.ok (.bl true),Ω):=by
 have no:=zi8 h many h1
 have s3:(3:Nat) ≤ sizeLine:=by decide
 have h7:(7:Nat) ≤ sizeLine:=by decide
 have t1:anyN (xtab ["NoPlace"] cs74 "NoPlace") ["NoPouch", "NoRow", "NoSize", "NoText", "NoTimes", "Unlike", "Wrong"]=some false:=by decide
 have t2:xtab ["NoPlace"] cs74 "NoPlace" "RankError" = some true:=by decide
 have t3:xtt ["NoPlace"] "NoPlace" "ValueError" = some true:=by decide
 have ob:=h.obj
 have lk:(fsS k m cs).lookup ("last" : Str)=none:=rfl
 have e0:zbL [some (.cel 0),some (.int many),some .non,none,none] Ω=some (.exc ⟨"NoPlace",[]⟩,[some (.cel 0),some (.int many),some .non,none,none],Ω):=by
  simp [zbL,zba,ob,lk,no,List.lookup]
 have e1:∀ q,zjd 3 (zbF q ⟨"NoPlace",[]⟩ (([some (.cel 0),some (.int many),some .non,none,none] : Ev).set 3 (some (.adr q))) Ω)=some (.nx,[some (.cel 0),some (.int many),some (.lst [.bl true, .bl true, .bl false]),none,some (.bl false)],Ω):=by
  intro q
  simp [zbF,s3,h7,isA,ziC,glOf,t1,t2,t3,zjd,mkL]
 have e2:=zmF (sub:=fun z=>xtab ["NoPlace"] cs74 z "NoPlace" == some true) e0 (by decide) e1
 show noX (fnF 5 zaT) [.cel 0, .int many] Ω=_
 have pq:gEq (.lst [.bl true, .bl true, .bl false]) (.lst [.bl true, .bl true, .bl false]) Ω=some (.ok (.bl true),Ω):=zhw (by simp [pur])
 have e:zaT [some (.cel 0),some (.int many),none,none,none] Ω=some (.ret (.bl true),[some (.cel 0),some (.int many),some (.lst [.bl true, .bl true, .bl false]),none,some (.bl false)],Ω):=by
  unfold zaT
  rw [zax (ρ1:=[some (.cel 0),some (.int many),some .non,none,none]) (Ω':=Ω) (by simp)]
  rw [zax e2]
  simp [s3,mkL,pq]
 have e3:fnF 5 zaT [.cel 0, .int many] Ω=some (.ok (.bl true),Ω):=by
  show trim Ω (outR (zaT [some (.cel 0),some (.int many),none,none,none] Ω))=_
  rw [e];simp
 simp only [noX,e3]
end
end M
namespace M
open PySem L2 V2
theorem zjs (ns:List Int):∃ n:Nat,n ≤ 60∧∀ Ω,zbj [.scr ns, .int 3, .int 60] Ω=some (.ok (.int n),Ω):=by
 have c:=fun Ω=>zhl ns 2 Ω (by decide) (by decide)
 have c0:=zk0 ns 2
 generalize zfF ns 2=x at c c0
 have hl:∀ Ω,zar Ω (.scr ns)=some (ns.map A.int):=fun _=>rfl
 obtain ⟨n,hn⟩:=Int.eq_ofNat_of_zero_le (show 0 ≤ min 60 (max (max 0 ((ns.length:Int) - 3)) (x % 61)) by omega)
 refine ⟨n,by omega,fun Ω=>?_⟩
 simp [zbj,zd7,zaP,c]
 omega
theorem zkp (ns:List Int) (hns:ns.length ≤ 63) (k:Nat) (hk:k ≤ 60):∃ c:Int,0 ≤ c∧c < 2147483587∧∀ Ω,zbN [.scr ns, .int 3, .int k] Ω=some (.ok (.int c),Ω):=by
 have hm:(0:Int) < max 1 (max 0 ((ns.length:Int) - 3)):=by omega
 have hm2:max 1 (max 0 ((ns.length:Int) - 3)) ≤ 100:=by omega
 generalize hx:max 1 (max 0 ((ns.length:Int) - 3))=x at hm hm2
 have e0:=Int.emod_nonneg (k:Int) (show x ≠ 0 by omega)
 have e1:=Int.emod_lt_of_pos (k:Int) hm
 generalize hy:(k:Int) % x=y at e0 e1
 have c:=fun Ω=>zhl ns (3 + y) Ω (by omega) (by omega)
 have c0:=zk0 ns (3 + y)
 have c1:=znv ns (3 + y)
 generalize zfF ns (3 + y)=z at c c0 c1
 have m:=fun Ω=>zhW z k Ω c0 (by omega) (by omega) (by omega)
 refine ⟨mixI z k,mix0 _ _,mix1 _ _,fun Ω=>?_⟩
 have l1:(vCl zgi (zac (cI 0) (zac (vOp (gSub) (vCl gLen (zac (vVar 0) a0)) (vVar 1)) a0))) [some (.scr ns),some (.int 3),some (.int k),none] Ω=some (.ok (.int (max 0 ((ns.length:Int) - 3))),Ω):=by simp
 show trim Ω (outR (zcq [some (.scr ns),some (.int 3),some (.int k),none] Ω))=_
 unfold zcq
 rw [zax (ρ1:=[some (.scr ns),some (.int 3),some (.int k),some (.int (max 0 ((ns.length:Int) - 3)))]) (Ω':=Ω) (by
  unfold sAsg;rw [zeg l1];simp)]
 generalize hw:max 0 ((ns.length:Int) - 3)=w at hx
 simp [zaP,hx,hm,hy,c,m]
theorem zaD.other {Ω:Sto} {s k m:Nat} {L:List (List Sg)} {cs:List Nat} (h:zaD Ω s k m L cs) {i:Nat} {c:Cell} (hi:i ≠ s) (hc:i ∉ cs):zaD (Ω.set i c) s k m L cs :=
 ⟨by rw [List.getElem?_set_ne hi];exact h.obj,h.len,fun j d S hj hS=>by
  have:i ≠ d:=fun z=>hc (z ▸ List.mem_of_getElem? hj)
  rw [List.getElem?_set_ne this]
  exact h.cel j d S hj hS,h.nd,h.ns⟩
abbrev E74 (ns:List Int) (so fi k:Int) (y6 y7 y8 y9 y10:Option A):Ev:=[some (.scr ns),some (.int so),some (.int fi),some (.int k),some (.cel 0),some (.cel 1),y6,y7,y8,y9,y10]
theorem zoD {Ω:Sto} {k:Nat} {row:List Int} {L:List (List Sg)} {cs:List Nat} (hk:2 ≤ k) (hk2:k ≤ 1000) (h:St74 Ω k row L cs) (hn:row.length < 400) (ns:List Int) (so fi c:Int) (hc:0 ≤ c) (hc1:c < 2147483587) (j:Nat) (hj:j ≤ 10) (y6 y9 y10:Option A) :
  ∃ Ω' x L' cs',St74 Ω' k (row ++ [x]) L' cs'∧zbT (E74 ns so fi k y6 (some (.int c)) (some (.int j)) y9 y10) Ω=some (.nx,E74 ns so fi k y6 (some (.int c)) (some (.int j)) y9 y10,Ω'):=by
 have m:=fun Ω=>zhW c (1 + (j:Int)) Ω hc (by omega) (by omega) (by omega)
 have m0:=mix0 c (1 + (j:Int))
 have m1:=mix1 c (1 + (j:Int))
 generalize mixI c (1 + (j:Int))=d at m m0 m1
 obtain ⟨x,hx⟩:=ziJ d so m0 (by omega)
 have h1l:1 < Ω.length:=(List.getElem?_eq_some_iff.mp h.rowc).1
 have hs1:=h.at_.other (i:=1) (c := .lst ((row ++ [x]).map A.int)) (by omega) h.no
 obtain ⟨Ω2,cs2,q,hp,fr⟩:=zog hk hk2 hs1 h.lv (by rw [h.fl];omega) x
 have r2:Ω2[1]? = some (.lst ((row ++ [x]).map A.int)):=by
  rw [fr.eq 1 (by simpa using h1l) (by omega) h.no,List.getElem?_set_self h1l]
 have no2:1 ∉ cs2:=fun z=>by
  rcases fr.new 1 z with w | w
  ·exact h.no w
  ·simp at w;omega
 refine ⟨Ω2,x,layS k [x] L,cs2,⟨by simpa using hp,zkD hk h.lv (by simp),by rw [zhN hk,h.fl],r2,no2,by simp;omega⟩,?_⟩
 have il:isL Ω (.cel 1):=zi9 (zaE h.rowc)
 have cl:zfb Ω (.cel 1)=some (1,row.map A.int):=zeG h.rowc
 have hz:(row.map A.int).length < sizeLine:=by rw [sizeLine_eq];simp;omega
 have er:(row ++ [x]).map A.int=row.map A.int ++ [A.int x]:=by simp
 rw [er] at q hs1
 unfold zbT
 rw [zax (ρ1:=E74 ns so fi k y6 (some (.int c)) (some (.int j)) y9 y10) (Ω':=Ω.set 1 (.lst (row.map A.int ++ [A.int x]))) (by
  generalize row.map A.int=u at cl hz
  simp [E74,zaP,m,hx,il,cl,hz])]
 have g1:(Ω.set 1 (.lst (row.map A.int ++ [A.int x])))[1]? = some (.lst (row.map A.int ++ [A.int x])):=List.getElem?_set_self h1l
 have ob:=hs1.obj
 have lk:(fsS k row.length cs).lookup ("put" : Str)=none:=rfl
 have la:atI (row.map A.int ++ [A.int x]) (-1)=some (.int x):=V2.zjK _ _
 generalize Ω.set 1 (.lst (row.map A.int ++ [A.int x]))=Ω1 at q g1 ob
 have li:zar Ω1 (.cel 1)=some (row.map A.int ++ [A.int x]):=zaE g1
 generalize row.map A.int ++ [A.int x]=u at li la
 have call:(zcg "put" [("Sums",zba 2 [] zcr)] (vVar 4) (zac (vOp gIx (vVar 5) (vNeg (cI 1))) a0)) (E74 ns so fi k y6 (some (.int c)) (some (.int j)) y9 y10) Ω1=some (.ok .non,Ω2):=by
  simp [E74,zba,ob,lk,li,la,q,List.lookup]
 unfold sExp
 rw [zeg call]
theorem zkX {Ω:Sto} {k:Nat} {row:List Int} {L:List (List Sg)} {cs:List Nat} (hk:2 ≤ k) (hk2:k ≤ 1000) (h:St74 Ω k row L cs) (n:Nat) (hn:row.length + n ≤ 400) (hn2:n ≤ 10) (ns:List Int) (so fi c:Int) (hc:0 ≤ c) (hc1:c < 2147483587) (y6 y8 y9 y10:Option A) :
  ∃ Ω' row' L' cs' z8,St74 Ω' k row' L' cs'∧row'.length=row.length + n∧fFor (fun _=>True) (gN 8) zbT ((List.range n).map fun (i:Nat)=>A.int (0 + (i:Int))) (E74 ns so fi k y6 (some (.int c)) y8 y9 y10) Ω=some (.nx,E74 ns so fi k y6 (some (.int c)) z8 y9 y10,Ω'):=by
 obtain ⟨ρ1,Ω1,q,row',L',cs',z8,rfl,h',hl⟩:=zfI (ok:=fun _=>True) (g:=gN 8) (b:=zbT)
  (fun i ρ Ω'=>∃ row' L' cs' z8,ρ=E74 ns so fi k y6 (some (.int c)) z8 y9 y10∧St74 Ω' k row' L' cs'∧row'.length=row.length + i) (fun _ _ _ _=>trivial)
  ((List.range n).map fun (i:Nat)=>A.int (0 + (i:Int))) 0 (E74 ns so fi k y6 (some (.int c)) y8 y9 y10) Ω ⟨row,L,cs,y8,rfl,h,rfl⟩
  (by
   rintro i a ρ Ω' ha ⟨row',L',cs',z8,rfl,h',hl⟩
   have hi:i < n:=by simpa using (List.getElem?_eq_some_iff.mp ha).1
   have ex:a = .int (i:Int):=by
    rw [List.getElem?_map,List.getElem?_range hi] at ha
    simpa using ha.symm
   subst ex
   rw [Nat.zero_add] at hl ⊢
   obtain ⟨Ω2,x,L2,cs2,h2,q2⟩:=zoD hk hk2 h' (by omega) ns so fi c hc hc1 i (by omega) y6 y9 y10
   exact ⟨E74 ns so fi k y6 (some (.int c)) (some (.int i)) y9 y10,Ω',_,_,by simp [E74], .inl q2,row' ++ [x],L2,cs2,some (.int i),rfl,h2,by simp;omega⟩)
 simp only [List.length_map,List.length_range,Nat.zero_add] at hl
 exact ⟨Ω1,row',L',cs',z8,h',hl,q⟩
theorem zk7 {Ω:Sto} {k:Nat} {row:List Int} {L:List (List Sg)} {cs:List Nat} (hk:2 ≤ k) (hk2:k ≤ 1000) (h:St74 Ω k row L cs) (i:Nat) (hi:i ≤ 60) (hn:row.length + 4 ≤ 400) (ns:List Int) (hns:ns.length ≤ 63) (so fi:Int) (y7 y8 y9 y10:Option A) :
  ∃ Ω' row' L' cs' z7 z8,St74 Ω' k row' L' cs'∧row'.length ≤ row.length + 4∧zbU (E74 ns so fi k (some (.int i)) y7 y8 y9 y10) Ω=some (.nx,E74 ns so fi k (some (.int i)) z7 z8 y9 y10,Ω'):=by
 obtain ⟨c,c0,c1,st⟩:=zkp ns hns i hi
 obtain ⟨n,hn'⟩:=Int.eq_ofNat_of_zero_le (show 0 ≤ 1 + c % 4 by omega)
 obtain ⟨Ω1,row1,L1,cs1,z8,h1,hl,q⟩:=zkX hk hk2 h n (by omega) (by omega) ns so fi c c0 c1 (some (.int i)) y8 y9 y10
 have m:=fun Ω=>zhW c 9 Ω c0 (by omega) (by decide) (by decide)
 generalize mixI c 9=d at m
 have hr1:1 ≤ row1.length:=by omega
 obtain ⟨a,ha⟩:=Int.eq_ofNat_of_zero_le (show 0 ≤ 1 + d % (row1.length:Int) by have:=Int.emod_nonneg d (show (row1.length:Int) ≠ 0 by omega);omega)
 have ha2:a ≤ row1.length:=by have:=Int.emod_lt_of_pos d (show (0:Int) < (row1.length:Int) by omega);omega
 have ha1:1 ≤ a:=by have:=Int.emod_nonneg d (show (row1.length:Int) ≠ 0 by omega);omega
 have ak:=zf7 hk hk2 h1 a ha1 ha2
 have li:zar Ω1 (.cel 1)=some (row1.map A.int):=zaE h1.rowc
 have hlen:(((row1.map A.int).length:Nat):Int)=row1.length:=by simp
 have hp:(0:Int) < row1.length:=by omega
 refine ⟨Ω1,row1,L1,cs1,some (.int c),z8,h1,by omega,?_⟩
 unfold zbU
 rw [zax (ρ1:=E74 ns so fi k (some (.int i)) (some (.int c)) y8 y9 y10) (Ω':=Ω) (by simp [E74,zaP,st])]
 rw [zax (ρ1:=E74 ns so fi k (some (.int i)) (some (.int c)) z8 y9 y10) (Ω':=Ω1) (by
  rw [forO (S:=zc1 0 n) (Ω':=Ω) (rngO (j:=(n:Int)) (by simp [E74,hn']) (by unfold zcW;omega))]
  exact q)]
 have lr:(vCl gLen (zac (vVar 5) a0)) (E74 ns so fi k (some (.int i)) (some (.int c)) z8 y9 y10) Ω1=some (.ok (.int row1.length),Ω1):=by
  generalize row1.map A.int=u at li hlen
  simp [E74,li,hlen]
 generalize hg:(vCl gLen (zac (vVar 5) a0))=gl at lr
 generalize (row1.length:Int)=rl at lr ha hp
 simp [E74,zaP,m] at lr ⊢
 simp [lr,hp,ha,ak]
theorem znV {Ω:Sto} {k m:Nat} {L:List (List Sg)} {cs:List Nat} (h:zaD Ω 0 k m L cs) (ns:List Int) (so fi:Int) (y6 y7 y8 y10:Option A) (ok:Sto→Prop) (hok:ok Ω):∀ (ms:List Int) (y9:Option A),(∀ a ∈ ms,a < 1∨(m:Int) < a)→∃ z9,
  fFor ok (gN 9) zcj (ms.map A.int) (E74 ns so fi k y6 y7 y8 y9 y10) Ω=some (.nx,E74 ns so fi k y6 y7 y8 z9 y10,Ω)
 | [],y9,_=>⟨y9,by simp [fFor,hok]⟩
 | a :: ms,y9,hm=>by
  obtain ⟨z9,q⟩:=znV h ns so fi y6 y7 y8 y10 ok hok ms (some (.int a)) fun b hb=>hm b (List.mem_cons_of_mem _ hb)
  refine ⟨z9,?_⟩
  rw [← q,List.map_cons]
  refine zbp hok (ρ0:=E74 ns so fi k y6 y7 y8 (some (.int a)) y10) (Ω0:=Ω) (by simp [E74]) ?_
  have r:=zg1 h a (hm a (by simp))
  simp [zcj,E74,zaP,r]
theorem znq {Ω:Sto} {k:Nat} {row:List Int} {L:List (List Sg)} {cs:List Nat} (hk:2 ≤ k) (hk2:k ≤ 1000) (h:St74 Ω k row L cs) (ns:List Int) (so fi:Int) (y6 y7 y8 y10:Option A) (ok:Sto→Prop) (hok:ok Ω):∀ (ms:List Int) (y9:Option A),(∀ a ∈ ms,1 ≤ a∧a ≤ (row.length:Int))→∃ z9,
  fFor ok (gN 9) zcP (ms.map A.int) (E74 ns so fi k y6 y7 y8 y9 y10) Ω=some (.nx,E74 ns so fi k y6 y7 y8 z9 y10,Ω)
 | [],y9,_=>⟨y9,by simp [fFor,hok]⟩
 | a :: ms,y9,hm=>by
  obtain ⟨z9,q⟩:=znq hk hk2 h ns so fi y6 y7 y8 y10 ok hok ms (some (.int a)) fun b hb=>hm b (List.mem_cons_of_mem _ hb)
  refine ⟨z9,?_⟩
  rw [← q,List.map_cons]
  refine zbp hok (ρ0:=E74 ns so fi k y6 y7 y8 (some (.int a)) y10) (Ω0:=Ω) (by simp [E74]) ?_
  have ha:=hm a (by simp)
  obtain ⟨b,rfl⟩:=Int.eq_ofNat_of_zero_le (show 0 ≤ a by omega)
  have r:=zf7 hk hk2 h b (by omega) (by omega)
  simp [zcP,E74,zaP,r]
theorem zj4 (gs:List Sg):(rowG gs).length=gs.flatten.length:=by
 unfold rowG
 rw [List.length_flatten,List.length_flatten,List.map_reverse,List.sum_reverse]
theorem zjv {Ω:Sto} {k:Nat} {row:List Int} {L:List (List Sg)} {cs:List Nat} (h:St74 Ω k row L cs) (ns:List Int) (so fi:Int) (y6 y7 y8:Option A) (ok:Sto→Prop) (hok:ok Ω):∀ (b a:List Sg) (y10:Option A),(zay L).reverse=a ++ b→∃ z9 z10,
  fFor ok (gN 10) zc0 (b.map sgE) (E74 ns so fi k y6 y7 y8 (some (.int (a.flatten.length:Int))) y10) Ω=some (.nx,E74 ns so fi k y6 y7 y8 z9 z10,Ω)
 | [],a,y10,_=>⟨some (.int (a.flatten.length:Int)),y10,by simp [fFor,hok]⟩
 | g :: b,a,y10,e=>by
  have hpos:∀ q ∈ (zay L).reverse,q ≠ []:=fun q hq=>zfT h.lv q (by simpa using hq)
  have e':(zay L).reverse=(a ++ [g]) ++ b:=by rw [e];simp
  obtain ⟨z9,z10,q⟩:=zjv h ns so fi y6 y7 y8 ok hok b (a ++ [g]) (some (sgE g)) e'
  refine ⟨z9,z10,?_⟩
  have hfew:=h.few
  have hg:g ≠ []:=hpos g (by rw [e];simp)
  have hg1:1 ≤ g.length:=by cases g with | nil=>exact absurd rfl hg | cons x t=>simp
  have el:((a ++ [g]).flatten.length:Int)=(a.flatten.length:Int) + g.length:=by simp
  have hrow:rowG ((a ++ [g]) ++ b)=row:=by rw [← e'];exact h.rowG
  have hlen:(a ++ [g]).flatten.length ≤ row.length:=by
   rw [← hrow,zj4]
   generalize a ++ [g]=A
   rw [List.flatten_append,List.length_append]
   omega
  have hone:1 ≤ (a ++ [g]).flatten.length:=by simp only [List.flatten_append,List.length_append,List.flatten_cons,List.flatten_nil,List.append_nil];omega
  have ls:=zkT h.at_ (by have:=h.fB;omega) (by have:=h.fL;omega) (a ++ [g]).flatten.length hone hlen (by omega)
  have bd:=zeo (zay L).reverse 0 0 (a ++ [g]).flatten.length (by rw [h.rowG];exact hlen) hpos
  rw [h.rowG] at bd
  have pr:=zf9 (a ++ [g]) b 0 0 fun q hq=>hpos q (by rw [e'];exact List.mem_append_right _ hq)
  rw [← e'] at pr
  rw [pr] at ls bd
  simp only [Int.zero_add,Int.sub_zero] at ls bd
  have es:(row.drop (row.length - (a ++ [g]).flatten.length)).sum=(a ++ [g]).flatten.sum:=by omega
  rw [← es] at ls
  rw [← q,List.map_cons,el]
  rw [el] at ls
  refine zbp hok (ρ0:=E74 ns so fi k y6 y7 y8 (some (.int (a.flatten.length:Int))) (some (sgE g))) (Ω0:=Ω) (by simp [E74]) ?_
  have li:zar Ω (.cel 1)=some (row.map A.int):=zaE h.rowc
  have hl2:(((row.map A.int).length:Nat):Int)=row.length:=by simp
  have cu:=zeP (row.map A.int) (row.length - (a ++ [g]).flatten.length) (by simp)
  have ec:((row.length - (a ++ [g]).flatten.length:Nat):Int)=(row.length:Int) - ((a.flatten.length:Int) + g.length):=by rw [← el];omega
  rw [ec,← List.map_drop] at cu
  have io:=zfd (row.drop (row.length - (a ++ [g]).flatten.length))
  have hz:((row.drop (row.length - (a ++ [g]).flatten.length)).map A.int).length ≤ sizeLine:=by rw [sizeLine_eq];simp;omega
  have s2:(2:Nat) ≤ sizeLine:=by decide
  have gi:∀ Ω,za7 Ω (sgE g)=some [.int g.length, .int g.sum, .int (mnL g), .int (mxL g)]:=fun _=>rfl
  have ob:=h.at_.obj
  have lk:(fsS k row.length cs).lookup ("last" : Str)=none:=rfl
  generalize hsm:(row.drop (row.length - (a ++ [g]).flatten.length)).sum=sm at ls
  generalize row.drop (row.length - (a ++ [g]).flatten.length)=rd at cu io hz hsm
  generalize rd.map A.int=u at cu io hz
  generalize row.map A.int=rw at li hl2 cu
  generalize hmm:(a.flatten.length:Int) + (g.length:Int)=mm at ls cu
  have call:(zcg "last" [("Sums",zba 2 [] zaF)] (vVar 4) (zac (vVar 9) a0)) (E74 ns so fi k y6 y7 y8 (some (.int mm)) (some (sgE g))) Ω=some (.ok (.tup [.int sm, .int sm]),Ω):=by
   simp [E74,zba,ob,lk,ls,List.lookup]
  have sums:(vCl gSum (zac (vSl false (vVar 5) (zga (vOp (gSub) (vCl gLen (zac (vVar 5) a0)) (vVar 9))) sl0) a0)) (E74 ns so fi k y6 y7 y8 (some (.int mm)) (some (sgE g))) Ω=some (.ok (.int sm),Ω):=by
   simp [E74,li,hl2,cu,hz,io,hsm]
  have ne:gNe (.tup [.int sm, .int sm]) (.tup [.int sm, .int sm]) Ω=some (.ok (.bl false),Ω):=zfw (by simp [pur])
  unfold zc0
  rw [zax (ρ1:=E74 ns so fi k y6 y7 y8 (some (.int mm)) (some (sgE g))) (Ω':=Ω) (by
   generalize sgE g=G at gi
   generalize a.flatten.length=al at hmm
   simp [E74,gi,hmm])]
  generalize hgs:(vCl gSum (zac (vSl false (vVar 5) (zga (vOp (gSub) (vCl gLen (zac (vVar 5) a0)) (vVar 9))) sl0) a0))=gs at sums
  generalize hgc:(zcg "last" [("Sums",zba 2 [] zaF)] (vVar 4) (zac (vVar 9) a0))=gc at call
  simp [call,sums,s2,ne]
end M
namespace M
open PySem L2 V2
end M
namespace M
open PySem L2 V2
end M
namespace M
open PySem L2 V2
end M
namespace M
open PySem L2 V2
theorem zgS (L:List Int):eqA 8 (.lst (L.map A.int)) (.lst [])=L.isEmpty:=by cases L <;> rfl
theorem zke (L:List Int):pur 8 (.lst (L.map A.int))=true:=by
 simp [pur]
theorem zhS (L:List Int) (k:Nat) (Ω:Sto) (g:Ω[k]? = some (.lst (L.map A.int))):gEq (.cel k) (.lst []) Ω=some (.ok (.bl L.isEmpty),Ω):=by
 have h1:=zke L
 have h2:pur 8 (.lst [])=true:=rfl
 have r1:res Ω 6 (.cel k)=some (.lst (L.map A.int)):=by rw [zkz g,zhH _ (by simp)];rfl
 simp [gEq,gEqB,r1,zdz h2,h1,h2,zgS]
end M
namespace M
open PySem L2 V2
theorem q74 (ns:List Int) (so fi:Int) (h0:0 ≤ fi) (h1:fi < 2147483587) (k:Int) (y6 y7 y8 y9 y10:Option A) (row:List Int) (hr:1 ≤ row.length) (Ω:Sto) (hrow:Ω[1]? = some (.lst (row.map A.int))) :
  ∃ ms:List Int,ms.length=20∧(∀ a ∈ ms,1 ≤ a∧a ≤ (row.length:Int))∧zcH (E74 ns so fi k y6 y7 y8 y9 y10) Ω=some (.ok (.lst (ms.map A.int)),Ω):=by
 have hp:(0:Int) < row.length:=by omega
 have hl1:1 < Ω.length:=(List.getElem?_eq_some_iff.mp hrow).1
 have li:∀ ys:List A,zar (Ω ++ [.lst ys]) (.cel 1)=some (row.map A.int):=fun ys=>zaE (by rw [List.getElem?_append_left hl1];exact hrow)
 have hl2:(((row.map A.int).length:Nat):Int)=row.length:=by simp
 let f:Int→Int:=fun i=>1 + mixI fi i % (row.length:Int)
 have hf:∀ i,1 ≤ f i∧f i ≤ (row.length:Int):=fun i=>by
  have a:=Int.emod_nonneg (mixI fi i) (show (row.length:Int) ≠ 0 by omega)
  have b:=Int.emod_lt_of_pos (mixI fi i) hp
  show 1 ≤ 1 + _∧1 + _ ≤ _
  omega
 let F:A→Option A:=fun x=>match x with | .int i=>some (.int (f i)) | _=>none
 have ef:((List.range 20).map fun (i:Nat)=>A.int (0 + (i:Int))).filterMap F=((List.range 20).map fun (i:Nat)=>f (0 + (i:Int))).map A.int:=by
  rw [List.filterMap_map,List.map_map]
  have:(F ∘ fun (i:Nat)=>A.int (0 + (i:Int)))=fun (i:Nat)=>some (A.int (f (0 + (i:Int)))):=rfl
  rw [this]
  exact List.filterMap_eq_map (f:=fun (i:Nat)=>A.int (f (0 + (i:Int)))) ▸ rfl
 refine ⟨(List.range 20).map fun (i:Nat)=>f (0 + (i:Int)),by simp,fun a ha=>?_,?_⟩
 ·obtain ⟨i,_,rfl⟩:=List.mem_map.mp ha
  exact hf _
 ·rw [← ef]
  refine zhO (n:=1) (js:=[2,5]) (fi:=zgJ (zac (cI 20) a0)) (Ω:=Ω) (Ω0:=Ω) (S:=zc1 0 20) F (fun ρ=>∃ y,ρ=[y,some (.int fi),some (.cel 1)]) ?_ (fun ys=>trivial) ⟨none,by simp [lcEv,E74]⟩ (by simp) (fun x hx ρ hP ys=>?_) ?_
  ·exact rngO (j:=20) (by simp) (by unfold zcW;omega)
  ·obtain ⟨y,rfl⟩:=hP
   simp only [zc1,List.mem_map,List.mem_range] at hx
   obtain ⟨i,hi,rfl⟩:=hx
   have hi0:(0:Int) + (i:Int)=(i:Int):=by omega
   rw [hi0]
   have m:=fun Ω=>zhW fi (i:Int) Ω h0 (by omega) (by omega) (by omega)
   refine ⟨[some (.int i),some (.int fi),some (.cel 1)],⟨_,rfl⟩,by simp, .inl ⟨.int (f i),rfl,by simp [yesM],?_⟩⟩
   show _=some (Rs.ok (A.int (1 + mixI fi (i:Int) % (row.length:Int))),_)
   have l:=li ys
   generalize mixI fi (i:Int)=d at m
   generalize row.map A.int=u at l hl2
   generalize (row.length:Int)=rl at hl2 hp
   simp [zaP,m,l,hl2,hp]
  ·simp only [zc1]
   rw [ef]
   exact zjk fun a ha=>by obtain ⟨i,_,rfl⟩:=List.mem_map.mp ha;simp only [Cl]
theorem zlZ (ns:List Int) (hns:ns.length ≤ 63):∃ W,zgg [.scr ns] []=some (.ok (.bl true),W):=by
 have c0:=fun Ω=>zhl ns 0 Ω (by decide) (by decide)
 have c1:=fun Ω=>zhl ns 1 Ω (by decide) (by decide)
 have f0:=zk0 ns 1
 have f1:=znv ns 1
 generalize zfF ns 0=x0 at c0
 generalize zfF ns 1=fi at c1 f0 f1
 obtain ⟨k,hk,hk2,hkv⟩ : ∃ k:Nat,2 ≤ k∧k ≤ 1000∧∀ (Ω:Sto) (x4 x5 x6 x7 x8 x9 x10:Option A),sIf (zaI (vOp gEq (vOp (gMod) (vOp (gDiv) (vVar 2) (cI 8)) (cI 8)) (cI 0))) (sAsg (cI 1000) (gN 3)) sNx [some (.scr ns),some (.int (x0 % 5)),some (.int fi),some (.int (2 + fi % 8)),x4,x5,x6,x7,x8,x9,x10] Ω=some (.nx,[some (.scr ns),some (.int (x0 % 5)),some (.int fi),some (.int k),x4,x5,x6,x7,x8,x9,x10],Ω):=by
  have d8:CDiv fi 8:=⟨by decide,by decide⟩
  by_cases c:fi / 8 % 8=0
  ·exact ⟨1000,by decide,by decide,fun Ω x4 x5 x6 x7 x8 x9 x10=>by simp [d8,c]⟩
  ·obtain ⟨n,hn⟩:=Int.eq_ofNat_of_zero_le (show 0 ≤ 2 + fi % 8 by omega)
   exact ⟨n,by omega,by omega,fun Ω x4 x5 x6 x7 x8 x9 x10=>by simp [d8,c,hn]⟩
 obtain ⟨n,hn,st⟩:=zjs ns
 have start:St74 [.ins "Sums" (fsS k 0 []), .lst []] k [] [] []:=⟨⟨rfl,rfl,fun j c S h=>by simp at h,List.nodup_nil,by simp⟩,trivial,rfl,rfl,by simp,by simp⟩
 generalize hso:x0 % 5=so at hkv
 obtain ⟨ρ1,Ω1,q,row,L,cs,z6,z7,z8,rfl,h,hl⟩:=zfI (ok:=fun _=>True) (g:=gN 6) (b:=zbU)
  (fun i ρ Ω'=>∃ row L cs z6 z7 z8,ρ=E74 ns so fi k z6 z7 z8 none none∧St74 Ω' k row L cs∧row.length ≤ 4 * i) (fun _ _ _ _=>trivial)
  ((List.range n).map fun (i:Nat)=>A.int (0 + (i:Int))) 0 (E74 ns so fi k none none none none none) [.ins "Sums" (fsS k 0 []), .lst []] ⟨[],[],[],none,none,none,rfl,start,by simp⟩
  (by
   rintro i a ρ Ω' ha ⟨row,L,cs,z6,z7,z8,rfl,h',hl⟩
   have hi:i < n:=by simpa using (List.getElem?_eq_some_iff.mp ha).1
   have ex:a = .int (i:Int):=by
    rw [List.getElem?_map,List.getElem?_range hi] at ha
    simpa using ha.symm
   subst ex
   rw [Nat.zero_add] at hl ⊢
   obtain ⟨Ω2,row2,L2,cs2,y7,y8,h2,hl2,q2⟩:=zk7 hk hk2 h' i (by omega) (by omega) ns hns so fi z7 z8 none none
   exact ⟨E74 ns so fi k (some (.int i)) z7 z8 none none,Ω',_,_,by simp [E74], .inl q2,row2,L2,cs2,some (.int i),y7,y8,rfl,h2,by omega⟩)
 have li:zar Ω1 (.cel 1)=some (row.map A.int):=zaE h.rowc
 have hl2:(((row.map A.int).length:Nat):Int)=row.length:=by simp
 obtain ⟨z9,q3⟩:=znV h.at_ ns so fi z6 z7 z8 none (fun Ω'=>za7 Ω' (.lst ([0,0 - 1 - fi % 9,(row.length:Int) + 1,(row.length:Int) + 10 ^ 6].map A.int))=some ([0,0 - 1 - fi % 9,(row.length:Int) + 1,(row.length:Int) + 10 ^ 6].map A.int)) rfl [0,0 - 1 - fi % 9,(row.length:Int) + 1,(row.length:Int) + 10 ^ 6] none (fun a ha=>by
  simp only [List.mem_cons,List.not_mem_nil,or_false] at ha
  rcases ha with e | e | e | e <;> subst e <;> omega)
 have s4:(4:Nat) ≤ sizeLine:=by decide
 have s2:(2:Nat) ≤ sizeLine:=by decide
 have pw:CPow 10 6:=⟨by decide,by decide,by decide⟩
 have ob:=h.at_.obj
 have lk:(fsS k row.length cs).lookup ("blocks" : Str)=none:=rfl
 have bl:=zfz h.at_ (by have:=h.fB;omega) (by have:=h.fL;omega)
 have call:∀ y9 y10,(zcg "blocks" [("Sums",zba 1 [] zaq)] (vVar 4) a0) (E74 ns so fi k z6 z7 z8 y9 y10) Ω1=some (.ok (.lst ((zay L).map sgE)),Ω1):=fun y9 y10=>by
  generalize (zay L).map sgE=u at bl
  simp [E74,zba,ob,lk,bl,List.lookup]
 have gE:=zhS row 1 Ω1 h.rowc
 have front:∀ f:MS,(sSeq (sAsg (vOp (gMod) (vCl (zaP 2 zaB) (zac (vVar 0) (zac (cI 0) a0))) (cI 5)) (gN 1))
  (sSeq (sAsg (vCl (zaP 2 zaB) (zac (vVar 0) (zac (cI 1) a0))) (gN 2))
  (sSeq (sAsg (vOp (gAdd false) (cI 2) (vOp (gMod) (vVar 2) (cI 8))) (gN 3))
  (sSeq (sIf (zaI (vOp gEq (vOp (gMod) (vOp (gDiv) (vVar 2) (cI 8)) (cI 8)) (cI 0)))
   (sAsg (cI 1000) (gN 3))
   sNx)
  (sSeq (sAsg (vCl (zg8 "Sums" 2 zaC) (zac (vVar 3) a0)) (gN 4))
  (sSeq (sAsg (vLst true a0) (gN 5))
  (sSeq (sFor (zgJ (zac (vCl (zaP 3 zbj) (zac (vVar 0) (zac (cI 3) (zac (cI 60) a0)))) a0)) (gN 6) zbU)
  (sSeq (sFor (vSeq (vLst false (zac (cI 0) (zac (vOp (gSub) (vOp (gSub) (cI 0) (cI 1)) (vOp (gMod) (vVar 2) (cI 9))) (zac (vOp (gAdd false) (vCl gLen (zac (vVar 5) a0)) (cI 1)) (zac (vOp (gAdd false) (vCl gLen (zac (vVar 5) a0)) (vOp (gPow) (cI 10) (cI 6))) a0)))))) (gN 9) zcj) f))))))))
   [some (.scr ns),none,none,none,none,none,none,none,none,none,none] []=f (E74 ns so fi k z6 z7 z8 z9 none) Ω1:=by
  intro f
  rw [zax (ρ1:=[some (.scr ns),some (.int so),none,none,none,none,none,none,none,none,none]) (Ω':=[]) (by simp [zaP,c0,hso])]
  rw [zax (ρ1:=[some (.scr ns),some (.int so),some (.int fi),none,none,none,none,none,none,none,none]) (Ω':=[]) (by simp [zaP,c1])]
  rw [zax (ρ1:=[some (.scr ns),some (.int so),some (.int fi),some (.int (2 + fi % 8)),none,none,none,none,none,none,none]) (Ω':=[]) (by simp)]
  rw [zax (hkv [] none none none none none none none)]
  rw [zax (ρ1:=[some (.scr ns),some (.int so),some (.int fi),some (.int k),some (.cel 0),none,none,none,none,none,none]) (Ω':=[.ins "Sums" (fsS k 0 [])]) (by
   have mk:=zmx k []
   generalize hgm:zg8 "Sums" 2 zaC=gm at mk
   simp at mk
   simp [mk])]
  rw [zax (ρ1:=E74 ns so fi k none none none none none) (Ω':=[.ins "Sums" (fsS k 0 []), .lst []]) (by simp [E74,mkL])]
  rw [zax (ρ1:=E74 ns so fi k z6 z7 z8 none none) (Ω':=Ω1) (by
   rw [forO (S:=zc1 0 n) (Ω':=[.ins "Sums" (fsS k 0 []), .lst []]) (rngO (j:=(n:Int)) (by simp [E74,zaP,st]) (by unfold zcW;omega))]
   exact q)]
  rw [zax (ρ1:=E74 ns so fi k z6 z7 z8 z9 none) (Ω':=Ω1) (by
   rw [forO (S:=srcOf (.lst ([0,0 - 1 - fi % 9,(row.length:Int) + 1,(row.length:Int) + 10 ^ 6].map A.int)) ([0,0 - 1 - fi % 9,(row.length:Int) + 1,(row.length:Int) + 10 ^ 6].map A.int)) (Ω':=Ω1) (by
    generalize row.map A.int=u at li hl2
    generalize (row.length:Int)=rl at hl2
    simp [E74,li,hl2,s4,pw])]
   exact q3)]
 show ∃ W,trim [] (outR (zc3 [some (.scr ns),none,none,none,none,none,none,none,none,none,none] []))=some (.ok (.bl true),W)
 suffices hfin:∃ ρ,zc3 [some (.scr ns),none,none,none,none,none,none,none,none,none,none] []=some (.ret (.bl true),ρ,Ω1) by
  obtain ⟨ρ,e⟩:=hfin
  rw [e]
  simp only [zhx]
  exact ⟨[],by simp [trim,Cl]⟩
 by_cases hr:row=[]
 ·subst hr
  have hL:L=[]:=by
   cases L with
   | nil=>rfl
   | cons S r =>
    have:=zjo h.lv (by simp)
    rw [h.fl] at this
    have h2:=Nat.two_pow_pos (0 + (S :: r).length - 1)
    simp only [List.length_nil] at this
    omega
  subst hL
  refine ⟨E74 ns so fi k z6 z7 z8 z9 none,?_⟩
  unfold zc3
  rw [front]
  have ge2:gEq (.lst []) (.lst []) Ω1=some (.ok (.bl true),Ω1):=zhw (by simp [pur])
  have cb:=call z9 none
  simp only [zay,List.map_nil] at cb
  generalize hgc:(zcg "blocks" [("Sums",zba 1 [] zaq)] (vVar 4) a0)=gc at cb
  have gE':gEq (.cel 1) (.lst []) Ω1=some (.ok (.bl true),Ω1):=by simpa using gE
  have r1:(sIf (zaI (vOp gEq (vVar 5) (vLst false a0))) (sRet (vOp gEq gc (vLst false a0))) sNx) (E74 ns so fi k z6 z7 z8 z9 none) Ω1=some (.ret (.bl true),E74 ns so fi k z6 z7 z8 z9 none,Ω1):=by
   have v5:∀ f:A→Mo A,mb (vVar 5 (E74 ns so fi k z6 z7 z8 z9 none)) f Ω1=f (.cel 1) Ω1:=fun f=>by simp [E74]
   rw [zll (Ω':=Ω1) (by simp [E74,gE',mkL])]
   simp [cb,ge2,mkL]
  rw [zlD r1]
 ·have hr1:1 ≤ row.length:=by
   cases row with
   | nil=>exact absurd rfl hr
   | cons x t=>simp
  obtain ⟨ms,hms,hmb,qq⟩:=q74 ns so fi f0 f1 k z6 z7 z8 z9 none row hr1 Ω1 h.rowc
  obtain ⟨w9,q4⟩:=znq hk hk2 h ns so fi z6 z7 z8 none (fun Ω'=>za7 Ω' (.lst (([1,(row.length:Int)] ++ ms).map A.int))=some (([1,(row.length:Int)] ++ ms).map A.int)) rfl ([1,(row.length:Int)] ++ ms) z9 (fun a ha=>by
   rcases List.mem_append.mp ha with z | z
   ·simp only [List.mem_cons,List.not_mem_nil,or_false] at z
    rcases z with e | e <;> subst e <;> omega
   ·exact hmb a z)
  obtain ⟨v9,v10,q5⟩:=zjv h ns so fi z6 z7 z8 (fun Ω'=>zar Ω' (.lst ((zay L).map sgE))=some ((zay L).map sgE)) rfl (zay L).reverse [] none (by simp)
  refine ⟨E74 ns so fi k z6 z7 z8 v9 v10,?_⟩
  unfold zc3
  rw [front]
  have gE':gEq (.cel 1) (.lst []) Ω1=some (.ok (.bl false),Ω1):=by
   have:row.isEmpty=false:=by simpa using hr
   rw [this] at gE;exact gE
  rw [zax (ρ1:=E74 ns so fi k z6 z7 z8 z9 none) (Ω':=Ω1) (by simp [E74,gE',mkL])]
  rw [zax (ρ1:=E74 ns so fi k z6 z7 z8 w9 none) (Ω':=Ω1) (by
   have em:([1,(row.length:Int)] ++ ms).map A.int=[.int 1, .int row.length] ++ ms.map A.int:=by simp
   have hz:¬ sizeLine < 2 + (ms.map A.int).length:=by rw [sizeLine_eq];simp [hms]
   rw [forO (S:=srcOf (.lst (([1,(row.length:Int)] ++ ms).map A.int)) (([1,(row.length:Int)] ++ ms).map A.int)) (Ω':=Ω1) (by
    rw [em]
    generalize ms.map A.int=v at qq hz
    generalize hq1:zcH=q1 at qq
    have lr:(vCl gLen (zac (vVar 5) a0)) (E74 ns so fi k z6 z7 z8 z9 none) Ω1=some (.ok (.int row.length),Ω1):=by
     generalize row.map A.int=u at li hl2
     simp [E74,li,hl2]
    generalize hgl:(vCl gLen (zac (vVar 5) a0))=gl at lr
    simp [lr,qq,s2,hz,mkL])]
   exact q4)]
  rw [zax (ρ1:=E74 ns so fi k z6 z7 z8 (some (.int 0)) none) (Ω':=Ω1) (by simp [E74])]
  rw [zax (ρ1:=E74 ns so fi k z6 z7 z8 v9 v10) (Ω':=Ω1) (by
   rw [forO (S:=zd8 (.lst ((zay L).map sgE)) ((zay L).map sgE)) (Ω':=Ω1) (by
    simp only [zfa]
    rw [zbv (call (some (.int 0)) none)]
    simp)]
   rw [List.map_reverse] at q5
   exact q5)]
  simp
end M
namespace K74
open PySem L2 V2 PyProof.Rows M
def top (i:Nat):Stmt:=PySem.Challenge.pw_rankpouch_k74_sums_of_the_last.main.body.getD i (.Pass ⟨0,0,0,0⟩)
abbrev zb3:Stmt:=top 12
abbrev za5:Stmt:=top 13
abbrev zb4:Stmt:=top 15
abbrev zbE:Stmt:=top 16
abbrev za3:Stmt:=top 17
abbrev zbi:Stmt:=top 18
abbrev zbA:Stmt:=top 19
abbrev za0:Stmt:=top 20
abbrev zaU:Stmt:=top 21
abbrev zau:Stmt:=inClass (top 11) 0
abbrev zb2:Stmt:=inClass (top 11) 1
abbrev zb6:Stmt:=inClass (top 11) 2
abbrev za6:Stmt:=inClass (top 11) 3
abbrev zbz:Stmt:=inClass (top 11) 4
abbrev ze5:Stmt:=top 22
structure Blt (mg:Str→Option Value):Prop where
 ValueError:mg "ValueError" = none
 bool:mg "bool" = none
 int:mg "int" = none
 isinstance:mg "isinstance" = none
 len:mg "len" = none
 max:mg "max" = none
 min:mg "min" = none
 range:mg "range" = none
 reversed:mg "reversed" = none
 sum:mg "sum" = none
 tuple:mg "tuple" = none
section
variable {P:Program} {w:World} {K:PySem.W.Frag} {mg:Str→Option Value} {base:Heap}
theorem zcD:zat ["self", "keep"] ["self", "keep"] (zab zau):=⟨rfl,rfl,rfl,by decide +kernel,rfl,by decide +kernel,by decide +kernel⟩
theorem zcF (B:Blt mg) (A_keep:zaW K ["Sums"] "keep") (A_levels:zaW K ["Sums"] "levels") (A_many:zaW K ["Sums"] "many") (f:Addr) (cdv:Value) (A:Around) (outer:List Env) (s:Shared) (H:Hp) (E:XK) (hr:Room 0 (A.deeper (envOfC "Sums.__init__" (zab zau) s.heap.objs.size f cdv))) :
  VSs (cxX P w K mg base ["self", "keep"] "Sums.__init__" (zab zau) f cdv A outer s H E) (fun _=>E) (zaj zau) zaY:=by
 exact (zae (zhL (vv 0) (vv 1) A_keep)
  (zae (zhL (vv 0) zad A_many)
  (zai (zlM (zhL (vv 0) (zcE true zaf) A_levels)))))
theorem zee (B:Blt mg) (A_keep:zaW K ["Sums"] "keep") (A_levels:zaW K ["Sums"] "levels") (A_many:zaW K ["Sums"] "many") {cls:Str} (h:HasI K mg cls "Sums.__init__" zau):zhR P w K mg base cls 1 2 zaC:=zhR.of h zcD (fun _ _ _ _ _ _ us hl=>us2 us hl (fun _ _=>rfl)) (zcF B A_keep A_levels A_many)
theorem zig (B:Blt mg) (A_keep:zaW K ["Sums"] "keep") (A_levels:zaW K ["Sums"] "levels") (A_many:zaW K ["Sums"] "many") {rk:Str} (h:HasB K mg rk "__init__" "Sums.__init__" zau):zjF P w K mg base rk "__init__" 1 2 zaC:=zjF.of h zcD (fun _ _ _ _ _ _ us hl=>us2 us hl (fun _ _=>rfl)) (zcF B A_keep A_levels A_many)
theorem zcp:zat ["self", "told", "some"] ["self"] (zab za6):=⟨rfl,rfl,rfl,by decide +kernel,rfl,by decide +kernel,by decide +kernel⟩
theorem zfZ (B:Blt mg) (A_levels:zaW K ["Sums"] "levels") {cls:Str} (h:HasM K mg cls "blocks" "Sums.blocks" za6):zcc P w K mg base cls "blocks" 1 1 [] zaq:=by
 refine zcc.of h zcp (fun _ _ _ _ _ _ us hl=>us1 us hl (fun _=>rfl)) (fun f cdv A outer s H E hr=>?_)
 exact (zae (zaz (i:=1) zcp.nd rfl (Or.inl rfl) (zcE true zaf))
  (zae (zjA (i:=0) (f := "levels") (zec zag.passes rfl (zhr rfl B.reversed (zer (vv 0) A_levels)) (zbJ (i:=2) zcp.nd rfl (Or.inl rfl))
   (zai (zcV (zlr PySem.F.plainAttrs_list PySem.F.slot_list_extend PySem.F.type_list_extend ziM zjE (vv 1) (zaa (vv 2) zaf))))))
  (zai (zaS (vf 1)))))
theorem zg5:zat ["one", "other"] ["one", "other"] (zab zb3):=⟨rfl,rfl,rfl,by decide +kernel,rfl,by decide +kernel,by decide +kernel⟩
theorem zh4 (B:Blt mg) (h:HasFn K mg "together" zb3):DefV P w K mg base "together" 1 ["one", "other"] zb5:=by
 refine DefV.of h zg5 (fun _ _ _ _ _ _ us hl=>us2 us hl (fun _ _=>rfl)) (fun f cdv A outer s H E hr=>?_)
 exact (zai (zaS (zd9 (zaa (zak (zbs false) (zb0 (vv 0) zad (fun _ _=>rfl)) (zb0 (vv 1) zad (fun _ _=>rfl))) (zaa (zak (zbs false) (zb0 (vv 0) zad (fun _ _=>rfl)) (zb0 (vv 1) zad (fun _ _=>rfl))) (zaa (zan (ziQ rfl) rfl B.min boot_min (zaa (zb0 (vv 0) zad (fun _ _=>rfl)) (zaa (zb0 (vv 1) zad (fun _ _=>rfl)) zaf))) (zaa (zan (zgE rfl) rfl B.max boot_max (zaa (zb0 (vv 0) zad (fun _ _=>rfl)) (zaa (zb0 (vv 1) zad (fun _ _=>rfl)) zaf))) zaf)))))))
theorem ze7:zat ["block", "many"] ["block", "many"] (zab za5):=⟨rfl,rfl,rfl,by decide +kernel,rfl,by decide +kernel,by decide +kernel⟩
theorem zfV (B:Blt mg) (h:HasFn K mg "sum_of_some" za5):DefV P w K mg base "sum_of_some" 1 ["block", "many"] za4:=by
 refine DefV.of h ze7 (fun _ _ _ _ _ _ us hl=>us2 us hl (fun _ _=>rfl)) (fun f cdv A outer s H E hr=>?_)
 exact (zae (zcu (zbx (o_eq hr.units) (vv 1) (zb0 (vv 0) zad (fun _ _=>rfl)) (zbk _))
   (zai (zaS (zd9 (zaa (zb0 (vv 0) zad (fun _ _=>rfl)) (zaa (zb0 (vv 0) zad (fun _ _=>rfl)) zaf)))))
   zaR)
  (zai (zaS (zd9 (zaa (zak zdW (vv 1) (zb0 (vv 0) zad (fun _ _=>rfl))) (zaa (zak zdW (vv 1) (zb0 (vv 0) zad (fun _ _=>rfl))) zaf))))))
theorem zeY:zat ["_law_cell_here", "_law_k", "_law_first"] ["_law_cell_here", "_law_k"] (zab zb4):=⟨rfl,rfl,rfl,by decide +kernel,rfl,by decide +kernel,by decide +kernel⟩
theorem zic (B:Blt mg) (h:HasFn K mg "_law_mix" zb4):DefV P w K mg base "_law_mix" 1 ["_law_cell_here", "_law_k"] zaM:=by
 refine DefV.of h zeY (fun _ _ _ _ _ _ us hl=>us2 us hl (fun _ _=>rfl)) (fun f cdv A outer s H E hr=>?_)
 exact (zae (zaz (i:=2) zeY.nd rfl (Or.inl rfl) (zak zcO (zak zdW (zak (zbs false) (vv 0) zad) (zak (zbs false) zad (zak zdW zad (vv 1)))) zad))
  (zai (zaS (zak zcO (zak (zbs false) (zak (zbs false) (zak zdW (zak zmi (vv 2) zad) zad) (zak zdW (vv 2) (zak (zbs false) (zak zdW (vv 1) (vv 1)) zad))) (vv 1)) zad))))
theorem ze6:zat ["_law_cell_here", "_law_sort"] ["_law_cell_here", "_law_sort"] (zab za3):=⟨rfl,rfl,rfl,by decide +kernel,rfl,by decide +kernel,by decide +kernel⟩
theorem zf1 (B:Blt mg) (h:HasFn K mg "_law_number" za3):DefV P w K mg base "_law_number" 1 ["_law_cell_here", "_law_sort"] zah:=by
 refine DefV.of h ze6 (fun _ _ _ _ _ _ us hl=>us2 us hl (fun _ _=>rfl)) (fun f cdv A outer s H E hr=>?_)
 exact (zae (zcu (zbx (o_eq hr.units) (vv 1) zad (zbk _))
   (zai (zaS (zak zcO (vv 0) zad)))
   zaR)
  (zae (zcu (zbx (o_eq hr.units) (vv 1) zad (zbk _))
   (zai (zaS (zak zcw (zak zcO (vv 0) zad) zad)))
   zaR)
  (zae (zcu (zbx (o_eq hr.units) (vv 1) zad (zbk _))
   (zai (zaS (zak zcw (zak zcO (zak zdW (zak zdW (vv 0) (vv 0)) zad) (zak (zbs false) (zak zdW zad (zak zg0 zad zad)) zad)) (zak zg0 zad zad))))
   zaR)
  (zae (zcu (zbx (o_eq hr.units) (vv 1) zad (zbk _))
   (zai (zaS (zb0 (zcE false (zaa (zak (zbs false) (zak zg0 zad zad) (vv 0)) (zaa (zak zcw (zak zcw zad (zak zg0 zad zad)) (vv 0)) (zaa (zak zcw (zak zg0 zad zad) zad) (zaa (zak zcw zad (zak zg0 zad zad)) zaf))))) (zak zcO (vv 0) zad) (fun _ _=>rfl))))
   zaR)
  (zai (zaS (zb0 (zcE false (zaa zad (zaa (zak zcw zad zad) (zaa zad zaf)))) (zak zmi (zak zcO (vv 0) zad) zad) (fun _ _=>rfl))))))))
theorem zaG:zat ["self", "many", "low", "high", "left", "block", "part", "bounds"] ["self", "many"] (zab zbz):=⟨rfl,rfl,rfl,by decide +kernel,rfl,by decide +kernel,by decide +kernel⟩
theorem zgX (B:Blt mg) (zcC:DefV P w K mg base "sum_of_some" 1 ["block", "many"] za4) (A_many:zaW K ["Sums"] "many") (M_Sums_blocks:zcc P w K mg base "Sums" "blocks" 1 1 [] zaq) (O_NoPlace:OwnC K mg "NoPlace") {cls:Str} (h:HasM K mg cls "last" "Sums.last" zbz):zcc P w K mg base cls "last" 2 2 [] zaF:=by
 refine zcc.of h zaG (fun _ _ _ _ _ _ us hl=>us2 us hl (fun _ _=>rfl)) (fun f cdv A outer s H E hr=>?_)
 exact (zae (zcu (VW.vt (zlw (zbx o_lt (vv 1) zad (zbk _)) (ziu (zbx o_gt (vv 1) (zer (vv 0) A_many) (zbk _)))))
   (zai (zjj zag rfl O_NoPlace rfl (zaa znc zaf)))
   zaR)
  (zae (zaz (i:=2) zaG.nd rfl (Or.inl rfl) zad)
  (zae (zaz (i:=3) zaG.nd rfl (Or.inl rfl) zad)
  (zae (zaz (i:=4) zaG.nd rfl (Or.inl rfl) (vv 1))
  (zae (zec zag.passes rfl (zhr rfl B.reversed (zem zag (TabM.cons M_Sums_blocks (hr.mono (by first | decide | omega)) TabM.nil) (vv 0))) (zbJ (i:=5) zaG.nd rfl (Or.inl rfl))
   (zae (zaz (i:=6) zaG.nd rfl (Or.inl rfl) (zan (ziQ rfl) rfl B.min boot_min (zaa (vv 4) (zaa (zb0 (vv 5) zad (fun _ _=>rfl)) zaf))))
   (zae (zaz (i:=7) zaG.nd rfl (Or.inl rfl) (zbY zag zcC (hr.mono (by first | decide | omega)) rfl (zaa (vv 5) (zaa (vv 6) zaf))))
   (zae (zaz (i:=2) zaG.nd rfl (Or.inl rfl) (zak (zbs false) (vv 2) (zb0 (vv 7) zad (fun _ _=>rfl))))
   (zae (zaz (i:=3) zaG.nd rfl (Or.inl rfl) (zak (zbs false) (vv 3) (zb0 (vv 7) zad (fun _ _=>rfl))))
   (zai (zaz (i:=4) zaG.nd rfl (Or.inl rfl) (zak zcw (vv 4) (vv 6)))))))))
  (zai (zaS (zd9 (zaa (vv 2) (zaa (vv 3) zaf))))))))))
theorem zcM:zat ["_law_script", "_law_k", "_law_cell_here"] ["_law_script", "_law_k"] (zab zbE):=⟨rfl,rfl,rfl,by decide +kernel,rfl,by decide +kernel,by decide +kernel⟩
theorem zgN (B:Blt mg) (h:HasFn K mg "_law_cell" zbE) (zaN:DefV P w K mg base "_law_mix" 1 ["_law_cell_here", "_law_k"] zaM):DefV P w K mg base "_law_cell" 2 ["_law_script", "_law_k"] zaB:=by
 refine DefV.of h zcM (fun _ _ _ _ _ _ us hl=>us2 us hl (fun _ _=>rfl)) (fun f cdv A outer s H E hr=>?_)
 exact (zae (zaz (i:=2) zcM.nd rfl (Or.inl rfl) zad)
  (zae (zcu (zbx o_lt (vv 1) (zan zd5 rfl B.len PySem.boot_len (zaa (vv 0) zaf)) (zbk _))
   (zai (zaz (i:=2) zcM.nd rfl (Or.inl rfl) (zak zcO (zb0 (vv 0) (vv 1) (fun _ _=>rfl)) zad)))
   zaR)
  (zai (zaS (zbY zag zaN (hr.mono (by first | decide | omega)) rfl (zaa (vv 2) (zaa (zak (zbs false) (vv 1) zad) zaf)))))))
theorem zdw:zat ["_law_script", "_law_start", "_law_most", "_law_cells"] ["_law_script", "_law_start", "_law_most"] (zab zbi):=⟨rfl,rfl,rfl,by decide +kernel,rfl,by decide +kernel,by decide +kernel⟩
theorem zf5 (B:Blt mg) (h:HasFn K mg "_law_steps" zbi) (zaK:DefV P w K mg base "_law_cell" 2 ["_law_script", "_law_k"] zaB):DefV P w K mg base "_law_steps" 3 ["_law_script", "_law_start", "_law_most"] zbj:=by
 refine DefV.of h zdw (fun _ _ _ _ _ _ us hl=>us3 us hl (fun _ _ _=>rfl)) (fun f cdv A outer s H E hr=>?_)
 exact (zae (zaz (i:=3) zdw.nd rfl (Or.inl rfl) (zan (zgE rfl) rfl B.max boot_max (zaa zad (zaa (zak zcw (zan zd5 rfl B.len PySem.boot_len (zaa (vv 0) zaf)) (vv 1)) zaf))))
  (zai (zaS (zan (ziQ rfl) rfl B.min boot_min (zaa (vv 2) (zaa (zan (zgE rfl) rfl B.max boot_max (zaa (vv 3) (zaa (zak zcO (zbY zag zaK (hr.mono (by first | decide | omega)) rfl (zaa (vv 0) (zaa (zak zcw (vv 1) zad) zaf))) (zak (zbs false) (vv 2) zad)) zaf))) zaf))))))
theorem zed:zat ["_law_script", "_law_start", "_law_k", "_law_cells"] ["_law_script", "_law_start", "_law_k"] (zab zbA):=⟨rfl,rfl,rfl,by decide +kernel,rfl,by decide +kernel,by decide +kernel⟩
theorem zhg (B:Blt mg) (h:HasFn K mg "_law_step" zbA) (zaK:DefV P w K mg base "_law_cell" 2 ["_law_script", "_law_k"] zaB) (zaN:DefV P w K mg base "_law_mix" 1 ["_law_cell_here", "_law_k"] zaM):DefV P w K mg base "_law_step" 3 ["_law_script", "_law_start", "_law_k"] zbN:=by
 refine DefV.of h zed (fun _ _ _ _ _ _ us hl=>us3 us hl (fun _ _ _=>rfl)) (fun f cdv A outer s H E hr=>?_)
 exact (zae (zaz (i:=3) zed.nd rfl (Or.inl rfl) (zan (zgE rfl) rfl B.max boot_max (zaa zad (zaa (zak zcw (zan zd5 rfl B.len PySem.boot_len (zaa (vv 0) zaf)) (vv 1)) zaf))))
  (zai (zaS (zbY zag zaN (hr.mono (by first | decide | omega)) rfl (zaa (zbY zag zaK (hr.mono (by first | decide | omega)) rfl (zaa (vv 0) (zaa (zak (zbs false) (vv 1) (zak zcO (vv 2) (zan (zgE rfl) rfl B.max boot_max (zaa zad (zaa (vv 3) zaf))))) zaf))) (zaa (vv 2) zaf))))))
theorem zal:zat ["_law_sums", "_law_keep", "_law_row", "_law_many", "_law_low", "_law_high", "_law_left", "_law_size", "_law_total", "_law_least", "_law_greatest", "_law_found"] ["_law_sums", "_law_keep", "_law_row", "_law_many"] (zab za0):=⟨rfl,rfl,rfl,by decide +kernel,rfl,by decide +kernel,by decide +kernel⟩
theorem zf6 (B:Blt mg) (h:HasFn K mg "_law_asked" za0) (M_Sums_blocks:zcc P w K mg base "Sums" "blocks" 1 1 [] zaq) (M_Sums_last:zcc P w K mg base "Sums" "last" 2 2 [] zaF):DefV P w K mg base "_law_asked" 3 ["_law_sums", "_law_keep", "_law_row", "_law_many"] zaZ:=by
 refine DefV.of h zal (fun _ _ _ _ _ _ us hl=>us4 us hl (fun _ _ _ _=>rfl)) (fun f cdv A outer s H E hr=>?_)
 exact (zae (zaz (i:=4) zal.nd rfl (Or.inl rfl) zad)
  (zae (zaz (i:=5) zal.nd rfl (Or.inl rfl) zad)
  (zae (zaz (i:=6) zal.nd rfl (Or.inl rfl) (vv 3))
  (zae (zec zag.passes rfl (zhr rfl B.reversed (zem zag (TabM.cons M_Sums_blocks (hr.mono (by first | decide | omega)) TabM.nil) (vv 0))) (znf rfl (zel (zbJ (i:=7) zal.nd rfl (Or.inl rfl)) (zel (zbJ (i:=8) zal.nd rfl (Or.inl rfl)) (zel (zbJ (i:=9) zal.nd rfl (Or.inl rfl)) (zel (zbJ (i:=10) zal.nd rfl (Or.inl rfl)) zlm)))))
   (zai (zcu (zbx o_le (vv 7) (vv 6) (zbk _))
    (zae (zaz (i:=4) zal.nd rfl (Or.inl rfl) (zak (zbs false) (vv 4) (vv 8)))
    (zae (zaz (i:=5) zal.nd rfl (Or.inl rfl) (zak (zbs false) (vv 5) (vv 8)))
    (zai (zaz (i:=6) zal.nd rfl (Or.inl rfl) (zak zcw (vv 6) (vv 7))))))
    (zai (zcu (zbx o_gt (vv 6) zad (zbk _))
     (zae (zaz (i:=4) zal.nd rfl (Or.inl rfl) (zak (zbs false) (vv 4) (zak zdW (vv 6) (vv 9))))
     (zae (zaz (i:=5) zal.nd rfl (Or.inl rfl) (zak (zbs false) (vv 5) (zak zdW (vv 6) (vv 10))))
     (zae (zaz (i:=6) zal.nd rfl (Or.inl rfl) zad)
     (zai (zcu (zbx o_ge (zak zdW (zak zcw (vv 7) zad) (zak zcw (vv 1) zad)) (vv 3) (zbk _))
      (zai (zaS zeI))
      zaR)))))
     zaR)))))
  (zae (zaz (i:=11) zal.nd rfl (Or.inl rfl) (zdL zag (TabM.cons M_Sums_last (hr.mono (by first | decide | omega)) TabM.nil) (vv 0) (zaa (vv 3) zaf)))
  (zae (zcu (VW.vt (zlw (zgu (zff (zan zf4 rfl B.isinstance boot_isinstance (zaa (vv 11) (zaa (zj5 rfl B.tuple PyProof.Rows.boot_tuple) zaf))))) (ziu (zbx (o_ne hr.units) (vv 11) (zd9 (zaa (vv 4) (zaa (vv 5) zaf))) (zbk _)))))
   (zai (zaS zeI))
   zaR)
  (zae (zcu (zbx (o_ne hr.units) (zm8 false ["_law_one"] [] rfl (LcOk.of (zab za0) ["_law_sums", "_law_keep", "_law_row", "_law_many", "_law_low", "_law_high", "_law_left", "_law_size", "_law_total", "_law_least", "_law_greatest", "_law_found"] rfl rfl (by decide +kernel)) (zi0 (vv 11)) (fun cl C s H fp=>⟨(zbJ (i:=0) (show (["_law_one"] : List Str).Nodup by decide +kernel) rfl (Or.inl rfl)),(zlo (VW.vt (zlw (zgu (zff (zan zf4 rfl B.isinstance boot_isinstance (zaa (vv 0) (zaa (zj5 rfl B.int PyProof.Rows.boot_int) zaf))))) (ziu (zff (zan zf4 rfl B.isinstance boot_isinstance (zaa (vv 0) (zaa (zj5 rfl B.bool PyProof.Rows.boot_bool) zaf)))))))),(vv 0)⟩)) (zcE false zaf) (zbk _))
   (zai (zaS zeI))
   zaR)
  (zai (zaS (zj0 o_le o_le (vv 4) (zan (zlA rfl) rfl B.sum boot_sum (zaa (zej false (vv 2) (zfX (zak zcw (zan zd5 rfl B.len PySem.boot_len (zaa (vv 2) zaf)) (vv 3))) zfK) zaf)) (vv 5)))))))))))
theorem zaV:zat ["_law_sums", "_law_many", "_law_told", "error", "_law_others"] ["_law_sums", "_law_many"] (zab zaU):=⟨rfl,rfl,rfl,by decide +kernel,rfl,by decide +kernel,by decide +kernel⟩
theorem ze8 (B:Blt mg) (h:HasFn K mg "_law_refused" zaU) (C_NoPlace:ClsN K mg "NoPlace") (C_NoPouch:ClsN K mg "NoPouch") (C_NoRow:ClsN K mg "NoRow") (C_NoSize:ClsN K mg "NoSize") (C_NoText:ClsN K mg "NoText") (C_NoTimes:ClsN K mg "NoTimes") (C_RankError:ClsN K mg "RankError") (C_Unlike:ClsN K mg "Unlike") (C_Wrong:ClsN K mg "Wrong") (M_Sums_last:zcc P w K mg base "Sums" "last" 2 2 [] zaF) (T_all:XTab K ["NoPlace"] ["RankError", "NoRow", "NoPlace", "NoPouch", "NoSize", "Wrong", "NoTimes", "Unlike", "NoText"]):DefV P w K mg base "_law_refused" 3 ["_law_sums", "_law_many"] zbO:=by
 refine DefV.ofN (DefN.of0 h zaV (fun _ _ _ _ _ _ us hl=>us2 us hl (fun _ _=>rfl)) (fun f cdv A outer s H E hr=>?_))
 exact (zgm (VS.v0 (zaz (i:=2) zaV.nd rfl (Or.inl rfl) znX))
  (zgm (zlF (i:=3) (rs:=["NoPlace"]) (ns:=["RankError", "NoRow", "NoPlace", "NoPouch", "NoSize", "Wrong", "NoTimes", "Unlike", "NoText"]) zit rfl C_NoPlace rfl T_all zaV.nd rfl rfl (fun W=>(VSs.v0 (zai (zcV (zdL ziB (TabM.cons M_Sums_last (hr.mono (by first | decide | omega)) TabM.nil) (vv 0) (zaa (vv 1) zaf))))))
   (fun p oe e he=>(zae (zaz (i:=4) zaV.nd rfl (Or.inl rfl) (zan (zk9 (List.mem_append_right _ (List.mem_singleton_self _)) T_all he) rfl B.isinstance boot_isinstance (zaa (vv 3) (zaa (zd9 (zaa (zea C_NoPouch rfl) (zaa (zea C_NoRow rfl) (zaa (zea C_NoSize rfl) (zaa (zea C_NoText rfl) (zaa (zea C_NoTimes rfl) (zaa (zea C_Unlike rfl) (zaa (zea C_Wrong rfl) zaf)))))))) zaf))))
   (zai (zaz (i:=2) zaV.nd rfl (Or.inl rfl) (zcE false (zaa (zan (zk9 (List.mem_append_right _ (List.mem_singleton_self _)) T_all he) rfl B.isinstance boot_isinstance (zaa (vv 3) (zaa (zea C_RankError rfl) zaf))) (zaa (zan (zk9 (List.mem_append_right _ (List.mem_singleton_self _)) T_all he) rfl B.isinstance boot_isinstance (zaa (vv 3) (zaa (zj5 rfl B.ValueError zeJ) zaf))) (zaa (vv 4) zaf)))))))))
  (VSs.v0 (zai (zaS (zkC (o_eq hr.units) (vv 2) (zcE false (zaa zeI (zaa zeI (zaa zeI zaf)))) (zbk _)))))))
theorem zeZ:zat ["self", "block", "level", "some"] ["self", "block", "level"] (zab zb6):=⟨rfl,rfl,rfl,by decide +kernel,rfl,by decide +kernel,by decide +kernel⟩
theorem zfj (B:Blt mg) (zdd:DefV P w K mg base "together" 1 ["one", "other"] zb5) (A_keep:zaW K ["Sums"] "keep") (A_levels:zaW K ["Sums"] "levels") {cls:Str} (hcls:cls = "Sums") (h:HasM K mg cls "lay" "Sums.lay" zb6):∀ n:Nat,zcc P w K mg base cls "lay" (2 + n) 3 [] (zaJ n)
 | 0=>zcc.none (ps:=["self", "block", "level"]) (N:=["self", "block", "level", "some"]) h rfl (fun _ _ _ _ _ _ us hl=>us3 us hl (fun _ _ _=>rfl))
 | n + 1=>by
  have ih:=zfj B zdd A_keep A_levels hcls h n
  subst hcls
  refine zcc.of (k:=2 + n) h zeZ (fun _ _ _ _ _ _ us hl=>us3 us hl (fun _ _ _=>rfl)) (fun f cdv A outer s H E hr=>?_)
  exact (zae (zcu (zbx (o_eq hr.units) (vv 2) (zl1 (zan zd5 rfl B.len PySem.boot_len (zaa (zer (vv 0) A_levels) zaf))) (zbk _))
   (zai (zcV (zjY (i:=0) (zi7 (i:=0) rfl (Or.inl rfl) (by decide) (by decide)) A_levels)))
   zaR)
  (zae (zaz (i:=3) zeZ.nd rfl (Or.inl rfl) (zm9 (zb0 (zer (vv 0) A_levels) (vv 2) (fun _ _=>rfl)) (zhs 2)))
  (zae (zcV (zlr PySem.F.plainAttrs_list PySem.F.slot_list_append PySem.F.type_list_append zeu zhD (vv 3) (zaa (vv 1) zaf)))
  (zai (zcu (zbx o_gt (zan zd5 rfl B.len PySem.boot_len (zaa (vv 3) zaf)) (zer (vv 0) A_keep) (zbk _))
   (zae (zm7 (zej true (vv 3) (zfX zad) zfK) (zlN (znn (zer (vv 0) A_levels) (vv 2)) (zhs 2)))
   (zai (zcV (zdL zag (TabM.cons ih (hr.mono (by first | decide | omega)) TabM.nil) (vv 0) (zaa (zbY zag zdd (hr.mono (by first | decide | omega)) rfl (zaa (zb0 (vv 3) zad (fun _ _=>rfl)) (zaa (zb0 (vv 3) zad (fun _ _=>rfl)) zaf))) (zaa (zak (zbs false) (vv 2) zad) zaf))))))
   zaR)))))
theorem zgU:zat ["self", "number"] ["self", "number"] (zab zb2):=⟨rfl,rfl,rfl,by decide +kernel,rfl,by decide +kernel,by decide +kernel⟩
theorem zib (B:Blt mg) (A_many:zaW K ["Sums"] "many") (M_Sums_lay:zcc P w K mg base "Sums" "lay" 14 3 [] (zaJ 12)) {cls:Str} (h:HasM K mg cls "put" "Sums.put" zb2):zcc P w K mg base cls "put" 15 2 [] zcr:=by
 refine zcc.of h zgU (fun _ _ _ _ _ _ us hl=>us2 us hl (fun _ _=>rfl)) (fun f cdv A outer s H E hr=>?_)
 exact (zae (zhL (vv 0) (zak (zbs false) (zer (vv 0) A_many) zad) A_many)
  (zai (zcV (zdL zag (TabM.cons M_Sums_lay (hr.mono (by first | decide | omega)) TabM.nil) (vv 0) (zaa (zd9 (zaa zad (zaa (vv 1) (zaa (vv 1) (zaa (vv 1) zaf))))) (zaa zad zaf))))))
theorem zb7:zat ["_law_script", "_law_sort", "_law_first", "_law_keep", "_law_sums", "_law_row", "_law_k", "_law_cell_here", "_law_j", "_law_many", "_law_block"] ["_law_script"] (zab ze5):=⟨rfl,rfl,rfl,by decide +kernel,rfl,by decide +kernel,by decide +kernel⟩
theorem zoj {f:Addr} {fd:FuncData} (B:Blt mg) (F:Fun K "law" "law" ze5 f fd) (zci:DefV P w K mg base "_law_asked" 3 ["_law_sums", "_law_keep", "_law_row", "_law_many"] zaZ) (zaK:DefV P w K mg base "_law_cell" 2 ["_law_script", "_law_k"] zaB) (zaN:DefV P w K mg base "_law_mix" 1 ["_law_cell_here", "_law_k"] zaM) (zcy:DefV P w K mg base "_law_number" 1 ["_law_cell_here", "_law_sort"] zah) (zcm:DefV P w K mg base "_law_refused" 3 ["_law_sums", "_law_many"] zbO) (zds:DefV P w K mg base "_law_step" 3 ["_law_script", "_law_start", "_law_k"] zbN) (zcJ:DefV P w K mg base "_law_steps" 3 ["_law_script", "_law_start", "_law_most"] zbj) (K_Sums:zhR P w K mg base "Sums" 1 2 zaC) (M_Sums_blocks:zcc P w K mg base "Sums" "blocks" 1 1 [] zaq) (M_Sums_last:zcc P w K mg base "Sums" "last" 2 2 [] zaF) (M_Sums_put:zcc P w K mg base "Sums" "put" 15 2 [] zcr):FnOk P w K mg base (CXE P w) 16 f fd ["_law_script"] (spV K 1 zgg):=by
 refine zkJ F zb7 (fun f cdv A outer s H E hr=>?_)
 exact (zae (zaz (i:=1) zb7.nd rfl (Or.inl rfl) (zak zcO (zbY zag zaK (hr.mono (by first | decide | omega)) rfl (zaa (vv 0) (zaa zad zaf))) zad))
  (zae (zaz (i:=2) zb7.nd rfl (Or.inr rfl) (zbY zag zaK (hr.mono (by first | decide | omega)) rfl (zaa (vv 0) (zaa zad zaf))))
  (zae (zaz (i:=3) zb7.nd rfl (Or.inl rfl) (zak (zbs false) zad (zak zcO (vv 2) zad)))
  (zae (zcu (zbx (o_eq hr.units) (zak zcO (zak zmi (vv 2) zad) zad) zad (zbk _))
   (zai (zaz (i:=3) zb7.nd rfl (Or.inl rfl) zad))
   zaR)
  (zae (zaz (i:=4) zb7.nd rfl (Or.inl rfl) (zl4 K_Sums (hr.mono (by first | decide | omega)) rfl (zaa (vv 3) zaf)))
  (zae (zaz (i:=5) zb7.nd rfl (Or.inr rfl) (zcE true zaf))
  (zae (zec zag.passes rfl (zeS rfl B.range (zaa (zbY zag zcJ (hr.mono (by first | decide | omega)) rfl (zaa (vv 0) (zaa zad (zaa zad zaf)))) zaf)) (zbJ (i:=6) zb7.nd rfl (Or.inl rfl))
   (zae (zaz (i:=7) zb7.nd rfl (Or.inl rfl) (zbY zag zds (hr.mono (by first | decide | omega)) rfl (zaa (vv 0) (zaa zad (zaa (vv 6) zaf)))))
   (zae (zec zag.passes rfl (zeS rfl B.range (zaa (zak (zbs false) zad (zak zcO (vv 7) zad)) zaf)) (zbJ (i:=8) zb7.nd rfl (Or.inl rfl))
    (zae (zcV (zlr PySem.F.plainAttrs_list PySem.F.slot_list_append PySem.F.type_list_append zeu zhD (vv 5) (zaa (zbY zag zcy (hr.mono (by first | decide | omega)) rfl (zaa (zbY zag zaN (hr.mono (by first | decide | omega)) rfl (zaa (vv 7) (zaa (zak (zbs false) zad (vv 8)) zaf))) (zaa (vv 1) zaf))) zaf)))
    (zai (zcV (zdL zag (TabM.cons M_Sums_put (hr.mono (by first | decide | omega)) TabM.nil) (vv 4) (zaa (zb0 (vv 5) (znH zad) (fun _ _=>rfl)) zaf))))))
   (zai (zcu (zgu (zff (zbY zag zci (hr.mono (by first | decide | omega)) rfl (zaa (vv 4) (zaa (vv 3) (zaa (vv 5) (zaa (zak (zbs false) zad (zak zcO (zbY zag zaN (hr.mono (by first | decide | omega)) rfl (zaa (vv 7) (zaa zad zaf))) (zan zd5 rfl B.len PySem.boot_len (zaa (vv 5) zaf)))) zaf)))))))
    (zai (zaS zeI))
    zaR)))))
  (zae (zec zag.passes rfl (zi0 (zcE false (zaa zad (zaa (zak zcw (zak zcw zad zad) (zak zcO (vv 2) zad)) (zaa (zak (zbs false) (zan zd5 rfl B.len PySem.boot_len (zaa (vv 5) zaf)) zad) (zaa (zak (zbs false) (zan zd5 rfl B.len PySem.boot_len (zaa (vv 5) zaf)) (zak zg0 zad zad)) zaf)))))) (zbJ (i:=9) zb7.nd rfl (Or.inl rfl))
   (zai (zcu (zgu (zff (zbY zag zcm (hr.mono (by first | decide | omega)) rfl (zaa (vv 4) (zaa (vv 9) zaf)))))
    (zai (zaS zeI))
    zaR)))
  (zae (zcu (zbx (o_eq hr.units) (vv 5) (zcE false zaf) (zbk _))
   (zai (zaS (zkC (o_eq hr.units) (zem zag (TabM.cons M_Sums_blocks (hr.mono (by first | decide | omega)) TabM.nil) (vv 4)) (zcE false zaf) (zbk _))))
   zaR)
  (zae (zec zag.passes rfl (zi0 (zak (zbs false) (zcE false (zaa zad (zaa (zan zd5 rfl B.len PySem.boot_len (zaa (vv 5) zaf)) zaf))) (zm8 false ["_law_k"] [2,5] rfl (LcOk.of (zab ze5) ["_law_script", "_law_sort", "_law_first", "_law_keep", "_law_sums", "_law_row", "_law_k", "_law_cell_here", "_law_j", "_law_many", "_law_block"] rfl rfl (by decide +kernel)) (zeS rfl B.range (zaa zad zaf)) (fun cl C s H fp=>⟨(zbJ (i:=0) (show (["_law_k", "_law_first", "_law_row"] : List Str).Nodup by decide +kernel) rfl (Or.inl rfl)),zk1,(zak (zbs false) zad (zak zcO (zlu (ps:=["_law_cell_here", "_law_k"]) zaN.calm (by exact hr.mono (by first | decide | omega)) (by exact rfl) (zaa (vv 1) (zaa (vv 0) zaf))) (zan zd5 rfl B.len PySem.boot_len (zaa (vv 2) zaf))))⟩)))) (zbJ (i:=9) zb7.nd rfl (Or.inl rfl))
   (zai (zcu (zgu (zff (zbY zag zci (hr.mono (by first | decide | omega)) rfl (zaa (vv 4) (zaa (vv 3) (zaa (vv 5) (zaa (vv 9) zaf)))))))
    (zai (zaS zeI))
    zaR)))
  (zae (zaz (i:=9) zb7.nd rfl (Or.inl rfl) zad)
  (zae (zec zag.passes rfl (zhr rfl B.reversed (zem zag (TabM.cons M_Sums_blocks (hr.mono (by first | decide | omega)) TabM.nil) (vv 4))) (zbJ (i:=10) zb7.nd rfl (Or.inl rfl))
   (zae (zaz (i:=9) zb7.nd rfl (Or.inl rfl) (zak (zbs false) (vv 9) (zb0 (vv 10) zad (fun _ _=>rfl))))
   (zai (zcu (zbx (o_ne hr.units) (zdL zag (TabM.cons M_Sums_last (hr.mono (by first | decide | omega)) TabM.nil) (vv 4) (zaa (vv 9) zaf)) (zd9 (zaa (zan (zlA rfl) rfl B.sum boot_sum (zaa (zej false (vv 5) (zfX (zak zcw (zan zd5 rfl B.len PySem.boot_len (zaa (vv 5) zaf)) (vv 9))) zfK) zaf)) (zaa (zan (zlA rfl) rfl B.sum boot_sum (zaa (zej false (vv 5) (zfX (zak zcw (zan zd5 rfl B.len PySem.boot_len (zaa (vv 5) zaf)) (vv 9))) zfK) zaf)) zaf))) (zbk _))
    (zai (zaS zeI))
    zaR))))
  (zai (zaS zeI))))))))))))))
end
theorem all_mk {l:PySem.W.OpenLaw} {w:World} {K:PySem.W.Frag} {h:Heap} {mg:Str→Option Value} {fa f0 f1 f2 f3 f4 f5 f6 f7 f8 f9:Addr} (X:K.In h) (G:h.Ns mainGlobals mg) (hfa:mg "law" = some (.ref fa))
  {od0 an0 od1 an1 od2 an2 od3 an3 od4 an4 od5 an5 od6 an6 od7 an7 od8 an8 od9 an9:Option Addr} {sl0 sl1 sl2 sl3 sl4 sl5 sl6 sl7 sl8 sl9:Array (Option Value)} {oc0 kV0 dc0 pm0 cd0 ct0 oc1 kV1 dc1 pm1 cd1 ct1 oc2 kV2 dc2 pm2 cd2 ct2 oc3 kV3 dc3 pm3 cd3 ct3 oc4 kV4 dc4 pm4 cd4 ct4 oc5 kV5 dc5 pm5 cd5 ct5 oc6 kV6 dc6 pm6 cd6 ct6 oc7 kV7 dc7 pm7 cd7 ct7 oc8 kV8 dc8 pm8 cd8 ct8 oc9 kV9 dc9 pm9 cd9 ct9:Value}
  (a0:PySem.W.nsIn K mainGlobals "together" = some (some (.ref f0))) (l0:K.lookup f0=some ⟨oc0,od0, .func (PySem.W.fnOf "together" "together" (zav zb3) (zaj zb3) (zab zb3) .none kV0 dc0 pm0 an0 cd0 ct0),sl0⟩) (c0:PySem.W.codeIn K cd0 "together" = true) (k0:PySem.W.keepIn K (.ref f0)=true)
  (a1:PySem.W.nsIn K mainGlobals "sum_of_some" = some (some (.ref f1))) (l1:K.lookup f1=some ⟨oc1,od1, .func (PySem.W.fnOf "sum_of_some" "sum_of_some" (zav za5) (zaj za5) (zab za5) .none kV1 dc1 pm1 an1 cd1 ct1),sl1⟩) (c1:PySem.W.codeIn K cd1 "sum_of_some" = true) (k1:PySem.W.keepIn K (.ref f1)=true)
  (a2:PySem.W.nsIn K mainGlobals "_law_mix" = some (some (.ref f2))) (l2:K.lookup f2=some ⟨oc2,od2, .func (PySem.W.fnOf "_law_mix" "_law_mix" (zav zb4) (zaj zb4) (zab zb4) .none kV2 dc2 pm2 an2 cd2 ct2),sl2⟩) (c2:PySem.W.codeIn K cd2 "_law_mix" = true) (k2:PySem.W.keepIn K (.ref f2)=true)
  (a3:PySem.W.nsIn K mainGlobals "_law_cell" = some (some (.ref f3))) (l3:K.lookup f3=some ⟨oc3,od3, .func (PySem.W.fnOf "_law_cell" "_law_cell" (zav zbE) (zaj zbE) (zab zbE) .none kV3 dc3 pm3 an3 cd3 ct3),sl3⟩) (c3:PySem.W.codeIn K cd3 "_law_cell" = true) (k3:PySem.W.keepIn K (.ref f3)=true)
  (a4:PySem.W.nsIn K mainGlobals "_law_number" = some (some (.ref f4))) (l4:K.lookup f4=some ⟨oc4,od4, .func (PySem.W.fnOf "_law_number" "_law_number" (zav za3) (zaj za3) (zab za3) .none kV4 dc4 pm4 an4 cd4 ct4),sl4⟩) (c4:PySem.W.codeIn K cd4 "_law_number" = true) (k4:PySem.W.keepIn K (.ref f4)=true)
  (a5:PySem.W.nsIn K mainGlobals "_law_steps" = some (some (.ref f5))) (l5:K.lookup f5=some ⟨oc5,od5, .func (PySem.W.fnOf "_law_steps" "_law_steps" (zav zbi) (zaj zbi) (zab zbi) .none kV5 dc5 pm5 an5 cd5 ct5),sl5⟩) (c5:PySem.W.codeIn K cd5 "_law_steps" = true) (k5:PySem.W.keepIn K (.ref f5)=true)
  (a6:PySem.W.nsIn K mainGlobals "_law_step" = some (some (.ref f6))) (l6:K.lookup f6=some ⟨oc6,od6, .func (PySem.W.fnOf "_law_step" "_law_step" (zav zbA) (zaj zbA) (zab zbA) .none kV6 dc6 pm6 an6 cd6 ct6),sl6⟩) (c6:PySem.W.codeIn K cd6 "_law_step" = true) (k6:PySem.W.keepIn K (.ref f6)=true)
  (a7:PySem.W.nsIn K mainGlobals "_law_asked" = some (some (.ref f7))) (l7:K.lookup f7=some ⟨oc7,od7, .func (PySem.W.fnOf "_law_asked" "_law_asked" (zav za0) (zaj za0) (zab za0) .none kV7 dc7 pm7 an7 cd7 ct7),sl7⟩) (c7:PySem.W.codeIn K cd7 "_law_asked" = true) (k7:PySem.W.keepIn K (.ref f7)=true)
  (a8:PySem.W.nsIn K mainGlobals "_law_refused" = some (some (.ref f8))) (l8:K.lookup f8=some ⟨oc8,od8, .func (PySem.W.fnOf "_law_refused" "_law_refused" (zav zaU) (zaj zaU) (zab zaU) .none kV8 dc8 pm8 an8 cd8 ct8),sl8⟩) (c8:PySem.W.codeIn K cd8 "_law_refused" = true) (k8:PySem.W.keepIn K (.ref f8)=true)
  (a9:PySem.W.nsIn K mainGlobals "law" = some (some (.ref f9))) (l9:K.lookup f9=some ⟨oc9,od9, .func (PySem.W.fnOf "law" "law" (zav ze5) (zaj ze5) (zab ze5) .none kV9 dc9 pm9 an9 cd9 ct9),sl9⟩) (c9:PySem.W.codeIn K cd9 "law" = true) (k9:PySem.W.keepIn K (.ref f9)=true)
  (zcZ:PySem.W.nsIn K mainGlobals "ValueError" = some none)
  (ziS:PySem.W.nsIn K mainGlobals "bool" = some none)
  (zlT:PySem.W.nsIn K mainGlobals "int" = some none)
  (zc5:PySem.W.nsIn K mainGlobals "isinstance" = some none)
  (zmj:PySem.W.nsIn K mainGlobals "len" = some none)
  (zlP:PySem.W.nsIn K mainGlobals "max" = some none)
  (zlS:PySem.W.nsIn K mainGlobals "min" = some none)
  (zg4:PySem.W.nsIn K mainGlobals "range" = some none)
  (zdH:PySem.W.nsIn K mainGlobals "reversed" = some none)
  (zk4:PySem.W.nsIn K mainGlobals "sum" = some none)
  (zg2:PySem.W.nsIn K mainGlobals "tuple" = some none)
  {zaH:Addr} (zbK:PySem.W.nsIn K mainGlobals "RankError" = some (some (.ref zaH)))
  {zca:Addr} (zd4:PySem.W.nsIn K mainGlobals "NoRow" = some (some (.ref zca)))
  {zap:Addr} (zaA:PySem.W.nsIn K mainGlobals "NoPlace" = some (some (.ref zap)))
  {za1:Addr} (zct:PySem.W.nsIn K mainGlobals "NoPouch" = some (some (.ref za1)))
  {zbu:Addr} (zda:PySem.W.nsIn K mainGlobals "NoSize" = some (some (.ref zbu)))
  {zcb:Addr} (zdZ:PySem.W.nsIn K mainGlobals "Wrong" = some (some (.ref zcb)))
  {za2:Addr} (zcs:PySem.W.nsIn K mainGlobals "NoTimes" = some (some (.ref za2)))
  {zbt:Addr} (zc7:PySem.W.nsIn K mainGlobals "Unlike" = some (some (.ref zbt)))
  {zbm:Addr} (zdb:PySem.W.nsIn K mainGlobals "NoText" = some (some (.ref zbm)))
  {nm_RankError q_RankError N_RankError bs_RankError bm_RankError hdct_RankError sn_RankError zfS ab_RankError col_RankError dd_RankError k0_RankError k1_RankError k2_RankError k3_RankError k5_RankError} (o_RankError:K.lookup zaH=some (excClassObj nm_RankError q_RankError zaH N_RankError bs_RankError bm_RankError hdct_RankError sn_RankError zfS ab_RankError col_RankError dd_RankError k0_RankError k1_RankError k2_RankError k3_RankError k5_RankError "ValueError.__new__"))
  (zcL:PySem.W.findIn K (.ref zaH) "__getattribute__" = some (some (.builtin "BaseException.__getattribute__"))) (zcQ:PySem.W.findIn K (.ref zaH) "__getattr__" = some none) (zcR:PySem.W.findIn K (.ref zaH) "__class__" = some (some (.builtin "object.__class__"))) (zc2:PySem.W.subIn K (.ref zaH) (.type "BaseException")=some true) (zcK:PySem.W.subIn K (.ref zaH) (.type "object")=some true)
  {nm_NoRow q_NoRow N_NoRow bs_NoRow bm_NoRow hdct_NoRow sn_NoRow zir ab_NoRow col_NoRow dd_NoRow k0_NoRow k1_NoRow k2_NoRow k3_NoRow k5_NoRow} (o_NoRow:K.lookup zca=some (excClassObj nm_NoRow q_NoRow zca N_NoRow bs_NoRow bm_NoRow hdct_NoRow sn_NoRow zir ab_NoRow col_NoRow dd_NoRow k0_NoRow k1_NoRow k2_NoRow k3_NoRow k5_NoRow "ValueError.__new__"))
  (zft:PySem.W.findIn K (.ref zca) "__getattribute__" = some (some (.builtin "BaseException.__getattribute__"))) (zfM:PySem.W.findIn K (.ref zca) "__getattr__" = some none) (zfr:PySem.W.findIn K (.ref zca) "__class__" = some (some (.builtin "object.__class__"))) (zfL:PySem.W.subIn K (.ref zca) (.type "BaseException")=some true) (zfR:PySem.W.subIn K (.ref zca) (.type "object")=some true)
  {nm_NoPlace q_NoPlace N_NoPlace bs_NoPlace bm_NoPlace hdct_NoPlace sn_NoPlace zgL ab_NoPlace col_NoPlace dd_NoPlace k0_NoPlace k1_NoPlace k2_NoPlace k3_NoPlace k5_NoPlace} (o_NoPlace:K.lookup zap=some (excClassObj nm_NoPlace q_NoPlace zap N_NoPlace bs_NoPlace bm_NoPlace hdct_NoPlace sn_NoPlace zgL ab_NoPlace col_NoPlace dd_NoPlace k0_NoPlace k1_NoPlace k2_NoPlace k3_NoPlace k5_NoPlace "ValueError.__new__"))
  (zd2:PySem.W.findIn K (.ref zap) "__getattribute__" = some (some (.builtin "BaseException.__getattribute__"))) (zdV:PySem.W.findIn K (.ref zap) "__getattr__" = some none) (zd1:PySem.W.findIn K (.ref zap) "__class__" = some (some (.builtin "object.__class__"))) (zdQ:PySem.W.subIn K (.ref zap) (.type "BaseException")=some true) (zdB:PySem.W.subIn K (.ref zap) (.type "object")=some true)
  {nm_NoPouch q_NoPouch N_NoPouch bs_NoPouch bm_NoPouch hdct_NoPouch sn_NoPouch zgO ab_NoPouch col_NoPouch dd_NoPouch k0_NoPouch k1_NoPouch k2_NoPouch k3_NoPouch k5_NoPouch} (o_NoPouch:K.lookup za1=some (excClassObj nm_NoPouch q_NoPouch za1 N_NoPouch bs_NoPouch bm_NoPouch hdct_NoPouch sn_NoPouch zgO ab_NoPouch col_NoPouch dd_NoPouch k0_NoPouch k1_NoPouch k2_NoPouch k3_NoPouch k5_NoPouch "ValueError.__new__"))
  (zdM:PySem.W.findIn K (.ref za1) "__getattribute__" = some (some (.builtin "BaseException.__getattribute__"))) (zdN:PySem.W.findIn K (.ref za1) "__getattr__" = some none) (zd3:PySem.W.findIn K (.ref za1) "__class__" = some (some (.builtin "object.__class__"))) (zdX:PySem.W.subIn K (.ref za1) (.type "BaseException")=some true) (zdJ:PySem.W.subIn K (.ref za1) (.type "object")=some true)
  {nm_NoSize q_NoSize N_NoSize bs_NoSize bm_NoSize hdct_NoSize sn_NoSize zh9 ab_NoSize col_NoSize dd_NoSize k0_NoSize k1_NoSize k2_NoSize k3_NoSize k5_NoSize} (o_NoSize:K.lookup zbu=some (excClassObj nm_NoSize q_NoSize zbu N_NoSize bs_NoSize bm_NoSize hdct_NoSize sn_NoSize zh9 ab_NoSize col_NoSize dd_NoSize k0_NoSize k1_NoSize k2_NoSize k3_NoSize k5_NoSize "ValueError.__new__"))
  (zeV:PySem.W.findIn K (.ref zbu) "__getattribute__" = some (some (.builtin "BaseException.__getattribute__"))) (zeU:PySem.W.findIn K (.ref zbu) "__getattr__" = some none) (zeQ:PySem.W.findIn K (.ref zbu) "__class__" = some (some (.builtin "object.__class__"))) (ze2:PySem.W.subIn K (.ref zbu) (.type "BaseException")=some true) (zeN:PySem.W.subIn K (.ref zbu) (.type "object")=some true)
  {nm_Wrong q_Wrong N_Wrong bs_Wrong bm_Wrong hdct_Wrong sn_Wrong zio ab_Wrong col_Wrong dd_Wrong k0_Wrong k1_Wrong k2_Wrong k3_Wrong k5_Wrong} (o_Wrong:K.lookup zcb=some (excClassObj nm_Wrong q_Wrong zcb N_Wrong bs_Wrong bm_Wrong hdct_Wrong sn_Wrong zio ab_Wrong col_Wrong dd_Wrong k0_Wrong k1_Wrong k2_Wrong k3_Wrong k5_Wrong "ValueError.__new__"))
  (zfP:PySem.W.findIn K (.ref zcb) "__getattribute__" = some (some (.builtin "BaseException.__getattribute__"))) (zfO:PySem.W.findIn K (.ref zcb) "__getattr__" = some none) (zfx:PySem.W.findIn K (.ref zcb) "__class__" = some (some (.builtin "object.__class__"))) (zfy:PySem.W.subIn K (.ref zcb) (.type "BaseException")=some true) (zfs:PySem.W.subIn K (.ref zcb) (.type "object")=some true)
  {nm_NoTimes q_NoTimes N_NoTimes bs_NoTimes bm_NoTimes hdct_NoTimes sn_NoTimes zhc ab_NoTimes col_NoTimes dd_NoTimes k0_NoTimes k1_NoTimes k2_NoTimes k3_NoTimes k5_NoTimes} (o_NoTimes:K.lookup za2=some (excClassObj nm_NoTimes q_NoTimes za2 N_NoTimes bs_NoTimes bm_NoTimes hdct_NoTimes sn_NoTimes zhc ab_NoTimes col_NoTimes dd_NoTimes k0_NoTimes k1_NoTimes k2_NoTimes k3_NoTimes k5_NoTimes "ValueError.__new__"))
  (zdK:PySem.W.findIn K (.ref za2) "__getattribute__" = some (some (.builtin "BaseException.__getattribute__"))) (zdC:PySem.W.findIn K (.ref za2) "__getattr__" = some none) (zdE:PySem.W.findIn K (.ref za2) "__class__" = some (some (.builtin "object.__class__"))) (zdP:PySem.W.subIn K (.ref za2) (.type "BaseException")=some true) (zdY:PySem.W.subIn K (.ref za2) (.type "object")=some true)
  {nm_Unlike q_Unlike N_Unlike bs_Unlike bm_Unlike hdct_Unlike sn_Unlike zh1 ab_Unlike col_Unlike dd_Unlike k0_Unlike k1_Unlike k2_Unlike k3_Unlike k5_Unlike} (o_Unlike:K.lookup zbt=some (excClassObj nm_Unlike q_Unlike zbt N_Unlike bs_Unlike bm_Unlike hdct_Unlike sn_Unlike zh1 ab_Unlike col_Unlike dd_Unlike k0_Unlike k1_Unlike k2_Unlike k3_Unlike k5_Unlike "ValueError.__new__"))
  (zeK:PySem.W.findIn K (.ref zbt) "__getattribute__" = some (some (.builtin "BaseException.__getattribute__"))) (zeD:PySem.W.findIn K (.ref zbt) "__getattr__" = some none) (zey:PySem.W.findIn K (.ref zbt) "__class__" = some (some (.builtin "object.__class__"))) (zeL:PySem.W.subIn K (.ref zbt) (.type "BaseException")=some true) (zeT:PySem.W.subIn K (.ref zbt) (.type "object")=some true)
  {nm_NoText q_NoText N_NoText bs_NoText bm_NoText hdct_NoText sn_NoText zhX ab_NoText col_NoText dd_NoText k0_NoText k1_NoText k2_NoText k3_NoText k5_NoText} (o_NoText:K.lookup zbm=some (excClassObj nm_NoText q_NoText zbm N_NoText bs_NoText bm_NoText hdct_NoText sn_NoText zhX ab_NoText col_NoText dd_NoText k0_NoText k1_NoText k2_NoText k3_NoText k5_NoText "ValueError.__new__"))
  (zeF:PySem.W.findIn K (.ref zbm) "__getattribute__" = some (some (.builtin "BaseException.__getattribute__"))) (ze4:PySem.W.findIn K (.ref zbm) "__getattr__" = some none) (ze0:PySem.W.findIn K (.ref zbm) "__class__" = some (some (.builtin "object.__class__"))) (zeO:PySem.W.subIn K (.ref zbm) (.type "BaseException")=some true) (zet:PySem.W.subIn K (.ref zbm) (.type "object")=some true)
  (zdo:PySem.W.excIn K zap bmVE "ValueError.__new__" = true)
  (zdO:PySem.W.subIn K (.ref zap) (.type "ValueError")=some true)
  (zaX:PySem.W.subIn K (.ref zap) (.ref zaH)=some true)
  (zbG:PySem.W.subIn K (.ref zap) (.ref zca)=some false)
  (zbd:PySem.W.subIn K (.ref zap) (.ref zap)=some true)
  (zbe:PySem.W.subIn K (.ref zap) (.ref za1)=some false)
  (zbq:PySem.W.subIn K (.ref zap) (.ref zbu)=some false)
  (zbC:PySem.W.subIn K (.ref zap) (.ref zcb)=some false)
  (zbh:PySem.W.subIn K (.ref zap) (.ref za2)=some false)
  (zbn:PySem.W.subIn K (.ref zap) (.ref zbt)=some false)
  (zbr:PySem.W.subIn K (.ref zap) (.ref zbm)=some false)
  {za8:Addr} (zce:PySem.W.nsIn K mainGlobals "Sums" = some (some (.ref za8)))
  {fm_Sums___init__:Addr} {odm_Sums___init__ anm_Sums___init__:Option Addr} {slm_Sums___init__:Array (Option Value)} {ocm_Sums___init__ kVm_Sums___init__ dcm_Sums___init__ pmm_Sums___init__ cdm_Sums___init__ ctm_Sums___init__:Value}
  (at_Sums___init__:PySem.W.findIn K (.ref za8) "__init__" = some (some (.ref fm_Sums___init__)))
  (lm_Sums___init__:K.lookup fm_Sums___init__=some ⟨ocm_Sums___init__,odm_Sums___init__, .func (PySem.W.fnOf "__init__" "Sums.__init__" (zav zau) (zaj zau) (zab zau) .none kVm_Sums___init__ dcm_Sums___init__ pmm_Sums___init__ anm_Sums___init__ cdm_Sums___init__ ctm_Sums___init__),slm_Sums___init__⟩) (cm_Sums___init__:PySem.W.codeIn K cdm_Sums___init__ "Sums.__init__" = true) (km_Sums___init__:PySem.W.keepIn K (.ref fm_Sums___init__)=true) (im_Sums___init__:PySem.W.isFn K (.ref fm_Sums___init__)=true)
  {fm_Sums_put:Addr} {odm_Sums_put anm_Sums_put:Option Addr} {slm_Sums_put:Array (Option Value)} {ocm_Sums_put kVm_Sums_put dcm_Sums_put pmm_Sums_put cdm_Sums_put ctm_Sums_put:Value}
  (at_Sums_put:PySem.W.findIn K (.ref za8) "put" = some (some (.ref fm_Sums_put)))
  (lm_Sums_put:K.lookup fm_Sums_put=some ⟨ocm_Sums_put,odm_Sums_put, .func (PySem.W.fnOf "put" "Sums.put" (zav zb2) (zaj zb2) (zab zb2) .none kVm_Sums_put dcm_Sums_put pmm_Sums_put anm_Sums_put cdm_Sums_put ctm_Sums_put),slm_Sums_put⟩) (cm_Sums_put:PySem.W.codeIn K cdm_Sums_put "Sums.put" = true) (km_Sums_put:PySem.W.keepIn K (.ref fm_Sums_put)=true) (im_Sums_put:PySem.W.isFn K (.ref fm_Sums_put)=true)
  {fm_Sums_lay:Addr} {odm_Sums_lay anm_Sums_lay:Option Addr} {slm_Sums_lay:Array (Option Value)} {ocm_Sums_lay kVm_Sums_lay dcm_Sums_lay pmm_Sums_lay cdm_Sums_lay ctm_Sums_lay:Value}
  (at_Sums_lay:PySem.W.findIn K (.ref za8) "lay" = some (some (.ref fm_Sums_lay)))
  (lm_Sums_lay:K.lookup fm_Sums_lay=some ⟨ocm_Sums_lay,odm_Sums_lay, .func (PySem.W.fnOf "lay" "Sums.lay" (zav zb6) (zaj zb6) (zab zb6) .none kVm_Sums_lay dcm_Sums_lay pmm_Sums_lay anm_Sums_lay cdm_Sums_lay ctm_Sums_lay),slm_Sums_lay⟩) (cm_Sums_lay:PySem.W.codeIn K cdm_Sums_lay "Sums.lay" = true) (km_Sums_lay:PySem.W.keepIn K (.ref fm_Sums_lay)=true) (im_Sums_lay:PySem.W.isFn K (.ref fm_Sums_lay)=true)
  {fm_Sums_blocks:Addr} {odm_Sums_blocks anm_Sums_blocks:Option Addr} {slm_Sums_blocks:Array (Option Value)} {ocm_Sums_blocks kVm_Sums_blocks dcm_Sums_blocks pmm_Sums_blocks cdm_Sums_blocks ctm_Sums_blocks:Value}
  (at_Sums_blocks:PySem.W.findIn K (.ref za8) "blocks" = some (some (.ref fm_Sums_blocks)))
  (lm_Sums_blocks:K.lookup fm_Sums_blocks=some ⟨ocm_Sums_blocks,odm_Sums_blocks, .func (PySem.W.fnOf "blocks" "Sums.blocks" (zav za6) (zaj za6) (zab za6) .none kVm_Sums_blocks dcm_Sums_blocks pmm_Sums_blocks anm_Sums_blocks cdm_Sums_blocks ctm_Sums_blocks),slm_Sums_blocks⟩) (cm_Sums_blocks:PySem.W.codeIn K cdm_Sums_blocks "Sums.blocks" = true) (km_Sums_blocks:PySem.W.keepIn K (.ref fm_Sums_blocks)=true) (im_Sums_blocks:PySem.W.isFn K (.ref fm_Sums_blocks)=true)
  {fm_Sums_last:Addr} {odm_Sums_last anm_Sums_last:Option Addr} {slm_Sums_last:Array (Option Value)} {ocm_Sums_last kVm_Sums_last dcm_Sums_last pmm_Sums_last cdm_Sums_last ctm_Sums_last:Value}
  (at_Sums_last:PySem.W.findIn K (.ref za8) "last" = some (some (.ref fm_Sums_last)))
  (lm_Sums_last:K.lookup fm_Sums_last=some ⟨ocm_Sums_last,odm_Sums_last, .func (PySem.W.fnOf "last" "Sums.last" (zav zbz) (zaj zbz) (zab zbz) .none kVm_Sums_last dcm_Sums_last pmm_Sums_last anm_Sums_last cdm_Sums_last ctm_Sums_last),slm_Sums_last⟩) (cm_Sums_last:PySem.W.codeIn K cdm_Sums_last "Sums.last" = true) (km_Sums_last:PySem.W.keepIn K (.ref fm_Sums_last)=true) (im_Sums_last:PySem.W.isFn K (.ref fm_Sums_last)=true)
  (pg_Sums:PySem.W.plainGet K za8 Str.empty=true) (hd_Sums:PySem.W.hasDictIn K za8=true) (po_Sums:PySem.W.plainOver K za8=true) (zhh:PySem.W.findIn K (.ref za8) "__setattr__" = some (some (.builtin "object.__setattr__"))) (mk_Sums:PySem.W.makesIn K za8=true) (kc_Sums:PySem.W.keepIn K (.ref za8)=true)
  (na_Sums_keep:PySem.W.findIn K (.ref za8) "keep" = some none)
  (na_Sums_levels:PySem.W.findIn K (.ref za8) "levels" = some none)
  (na_Sums_many:PySem.W.findIn K (.ref za8) "many" = some none)
  : ∃ fd:FuncData,(∀ (s:Shared) (v:Value),BindsTo s fd ⟨[v],[]⟩ [("_law_script",v)])∧∀ base:Heap,K.In base→base.Ns mainGlobals mg→FnOk l.prog w K mg base CX0 16 fa fd ["_law_script"] (zkm K):=by
 have e:=hfa.symm.trans (PySem.W.mg_of X G a9)
 cases e
 have zgj:=PySem.W.mg_none_of X G zcZ
 have y_bool:=PySem.W.mg_none_of X G ziS
 have zos:=PySem.W.mg_none_of X G zlT
 have zgh:=PySem.W.mg_none_of X G zc5
 have zoO:=PySem.W.mg_none_of X G zmj
 have zot:=PySem.W.mg_none_of X G zlP
 have zoK:=PySem.W.mg_none_of X G zlS
 have zle:=PySem.W.mg_none_of X G zg4
 have zh3:=PySem.W.mg_none_of X G zdH
 have zoC:=PySem.W.mg_none_of X G zk4
 have zlK:=PySem.W.mg_none_of X G zg2
 have B:Blt mg:=⟨zgj,y_bool,zos,zgh,zoO,zot,zoK,zle,zh3,zoC,zlK⟩
 have zd6:XC K zaH:=⟨⟨_,_,_,_,_,_,_,_,_,_,_,_,_,_,_,_,o_RankError⟩,zcL,zcQ,zcR,zc2,zcK⟩
 have C_RankError:ClsN K mg "RankError":=⟨zaH,zd6,PySem.W.mg_of X G zbK,zbK⟩
 have zhK:XC K zca:=⟨⟨_,_,_,_,_,_,_,_,_,_,_,_,_,_,_,_,o_NoRow⟩,zft,zfM,zfr,zfL,zfR⟩
 have C_NoRow:ClsN K mg "NoRow":=⟨zca,zhK,PySem.W.mg_of X G zd4,zd4⟩
 have zfh:XC K zap:=⟨⟨_,_,_,_,_,_,_,_,_,_,_,_,_,_,_,_,o_NoPlace⟩,zd2,zdV,zd1,zdQ,zdB⟩
 have C_NoPlace:ClsN K mg "NoPlace":=⟨zap,zfh,PySem.W.mg_of X G zaA,zaA⟩
 have zfi:XC K za1:=⟨⟨_,_,_,_,_,_,_,_,_,_,_,_,_,_,_,_,o_NoPouch⟩,zdM,zdN,zd3,zdX,zdJ⟩
 have C_NoPouch:ClsN K mg "NoPouch":=⟨za1,zfi,PySem.W.mg_of X G zct,zct⟩
 have zgB:XC K zbu:=⟨⟨_,_,_,_,_,_,_,_,_,_,_,_,_,_,_,_,o_NoSize⟩,zeV,zeU,zeQ,ze2,zeN⟩
 have C_NoSize:ClsN K mg "NoSize":=⟨zbu,zgB,PySem.W.mg_of X G zda,zda⟩
 have zhJ:XC K zcb:=⟨⟨_,_,_,_,_,_,_,_,_,_,_,_,_,_,_,_,o_Wrong⟩,zfP,zfO,zfx,zfy,zfs⟩
 have C_Wrong:ClsN K mg "Wrong":=⟨zcb,zhJ,PySem.W.mg_of X G zdZ,zdZ⟩
 have zfe:XC K za2:=⟨⟨_,_,_,_,_,_,_,_,_,_,_,_,_,_,_,_,o_NoTimes⟩,zdK,zdC,zdE,zdP,zdY⟩
 have C_NoTimes:ClsN K mg "NoTimes":=⟨za2,zfe,PySem.W.mg_of X G zcs,zcs⟩
 have zgs:XC K zbt:=⟨⟨_,_,_,_,_,_,_,_,_,_,_,_,_,_,_,_,o_Unlike⟩,zeK,zeD,zey,zeL,zeT⟩
 have C_Unlike:ClsN K mg "Unlike":=⟨zbt,zgs,PySem.W.mg_of X G zc7,zc7⟩
 have zgp:XC K zbm:=⟨⟨_,_,_,_,_,_,_,_,_,_,_,_,_,_,_,_,o_NoText⟩,zeF,ze4,ze0,zeO,zet⟩
 have C_NoText:ClsN K mg "NoText":=⟨zbm,zgp,PySem.W.mg_of X G zdb,zdb⟩
 have O_NoPlace:OwnC K mg "NoPlace":=⟨zap,⟨zdo⟩,PySem.W.mg_of X G zaA,zaA⟩
 have T_all:XTab K ["NoPlace"] ["RankError", "NoRow", "NoPlace", "NoPouch", "NoSize", "Wrong", "NoTimes", "Unlike", "NoText"]:=⟨(zaL (zdf zbK zd6) (zaL (zdf zd4 zhK) (zaL (zdf zaA zfh) (zaL (zdf zct zfi) (zaL (zdf zda zgB) (zaL (zdf zdZ zhJ) (zaL (zdf zcs zfe) (zaL (zdf zc7 zgs) (zaL (zdf zdb zgp) zhz))))))))),(zaL (zaL (zdx zaA zbK zaX) (zaL (zdx zaA zd4 zbG) (zaL (zdx zaA zaA zbd) (zaL (zdx zaA zct zbe) (zaL (zdx zaA zda zbq) (zaL (zdx zaA zdZ zbC) (zaL (zdx zaA zcs zbh) (zaL (zdx zaA zc7 zbn) (zaL (zdx zaA zdb zbr) zhz))))))))) zhz),(zaL (zdf zaA zdO) zhz),by decide⟩
 have L_Sums:Cls K za8:=⟨pg_Sums,hd_Sums,po_Sums,zhh⟩
 have A_keep:zaW K ["Sums"] "keep":=zdk zce L_Sums na_Sums_keep (zdR)
 have A_levels:zaW K ["Sums"] "levels":=zdk zce L_Sums na_Sums_levels (zdR)
 have A_many:zaW K ["Sums"] "many":=zdk zce L_Sums na_Sums_many (zdR)
 have Fm_Sums___init__:=zeA (st:=zau) lm_Sums___init__ cm_Sums___init__ km_Sums___init__
 have Fm_Sums_put:=zeA (st:=zb2) lm_Sums_put cm_Sums_put km_Sums_put
 have Fm_Sums_lay:=zeA (st:=zb6) lm_Sums_lay cm_Sums_lay km_Sums_lay
 have Fm_Sums_blocks:=zeA (st:=za6) lm_Sums_blocks cm_Sums_blocks km_Sums_blocks
 have Fm_Sums_last:=zeA (st:=zbz) lm_Sums_last cm_Sums_last km_Sums_last
 have zhU:HasFn K mg "together" zb3:=zb1 X G a0 l0 c0 k0
 have zfA:HasFn K mg "sum_of_some" za5:=zb1 X G a1 l1 c1 k1
 have zhP:HasFn K mg "_law_mix" zb4:=zb1 X G a2 l2 c2 k2
 have zgP:HasFn K mg "_law_cell" zbE:=zb1 X G a3 l3 c3 k3
 have zfu:HasFn K mg "_law_number" za3:=zb1 X G a4 l4 c4 k4
 have zgH:HasFn K mg "_law_steps" zbi:=zb1 X G a5 l5 c5 k5
 have zgQ:HasFn K mg "_law_step" zbA:=zb1 X G a6 l6 c6 k6
 have zgC:HasFn K mg "_law_asked" za0:=zb1 X G a7 l7 c7 k7
 have ze9:HasFn K mg "_law_refused" zaU:=zb1 X G a8 l8 c8 k8
 have FL:=zeA (st:=ze5) l9 c9 k9
 refine ⟨PySem.W.fnOf "law" "law" (zav ze5) (zaj ze5) (zab ze5) .none kV9 dc9 pm9 an9 cd9 ct9,fun s v => .of_eq rfl,fun base _ _=>?_⟩
 have zdd:=zh4 (P:=l.prog) (w:=w) (base:=base) B zhU
 have zcC:=zfV (P:=l.prog) (w:=w) (base:=base) B zfA
 have zaN:=zic (P:=l.prog) (w:=w) (base:=base) B zhP
 have zcy:=zf1 (P:=l.prog) (w:=w) (base:=base) B zfu
 have K_Sums:=zee (P:=l.prog) (w:=w) (base:=base) B A_keep A_levels A_many (cls := "Sums") ⟨za8,fm_Sums___init__,_,zce,PySem.W.mg_of X G zce,⟨mk_Sums,at_Sums___init__,im_Sums___init__,kc_Sums⟩,Fm_Sums___init__⟩
 have M_Sums_blocks:=zfZ (P:=l.prog) (w:=w) (base:=base) B A_levels (cls := "Sums") ⟨za8,fm_Sums_blocks,_,zce,PySem.W.mg_of X G zce,L_Sums,⟨at_Sums_blocks,im_Sums_blocks,km_Sums_blocks⟩,Fm_Sums_blocks⟩
 have zaK:=zgN (P:=l.prog) (w:=w) (base:=base) B zgP zaN
 have M_Sums_last:=zgX (P:=l.prog) (w:=w) (base:=base) B zcC A_many M_Sums_blocks O_NoPlace (cls := "Sums") ⟨za8,fm_Sums_last,_,zce,PySem.W.mg_of X G zce,L_Sums,⟨at_Sums_last,im_Sums_last,km_Sums_last⟩,Fm_Sums_last⟩
 have zcJ:=zf5 (P:=l.prog) (w:=w) (base:=base) B zgH zaK
 have zds:=zhg (P:=l.prog) (w:=w) (base:=base) B zgQ zaK zaN
 have zci:=zf6 (P:=l.prog) (w:=w) (base:=base) B zgC M_Sums_blocks M_Sums_last
 have zcm:=ze8 (P:=l.prog) (w:=w) (base:=base) B ze9 C_NoPlace C_NoPouch C_NoRow C_NoSize C_NoText C_NoTimes C_RankError C_Unlike C_Wrong M_Sums_last T_all
 have M_Sums_lay:=zfj (P:=l.prog) (w:=w) (base:=base) B zdd A_keep A_levels (cls := "Sums") rfl ⟨za8,fm_Sums_lay,_,zce,PySem.W.mg_of X G zce,L_Sums,⟨at_Sums_lay,im_Sums_lay,km_Sums_lay⟩,Fm_Sums_lay⟩ 12
 have M_Sums_put:=zib (P:=l.prog) (w:=w) (base:=base) B A_many M_Sums_lay (cls := "Sums") ⟨za8,fm_Sums_put,_,zce,PySem.W.mg_of X G zce,L_Sums,⟨at_Sums_put,im_Sums_put,km_Sums_put⟩,Fm_Sums_put⟩
 exact znW (zoj B FL zci zaK zaN zcy zcm zds zcJ K_Sums M_Sums_blocks M_Sums_last M_Sums_put) M.zlZ
theorem walk {l:PySem.W.OpenLaw} {q:Program} {loose:List Str} {XP:(Str→Option Value)→Heap→Prop} {YP:World→Heap→Prop} {d:DefRec} {K:Params→PySem.W.Frag} (hn:l.most=some 63) (hdf:d.params.defaults=[])
  (hY:∀ (w:World) (h:Heap),YP w h→(K w.params).In h)
  (F:∀ (w:World) (mg:Str→Option Value) (fa:Addr) (h:Heap),(K w.params).In h→h.Ns mainGlobals mg→mg d.name=some (.ref fa) →
   ∃ fd:FuncData,(∀ (s:Shared) (u:Value),BindsTo s fd ⟨[u],[]⟩ [("_law_script",u)])∧∀ base:Heap,(K w.params).In base→base.Ns mainGlobals mg→FnOk l.prog w (K w.params) mg base CX0 16 fa fd ["_law_script"] (zkm (K w.params))) :
  PySem.W.WalkO q loose XP YP l.row.toRowW d [] (fun f vs=>PySem.call f vs) :=
 L2.zln (n:=63) (k:=16) (x := "_law_script") (CX:=fun _=>CX0) (sp:=fun w=>zkm (K w.params)) hn (by decide) hdf ⟨rfl,by decide,by decide⟩ hY F (fun _ _ a ns hl _ hS=>⟨a,ns,rfl,hS,hl,fun _=>rfl⟩) fun _ _ _ _ _ z=>z
end K74
open PySem PySem.W PyProof.Rows
namespace HD
open PySem PySem.W PyProof.Rows
def runT (B:String→Option Builtin) (p:Program) (w:World) (lo:Nat) (an:Option Value):Nat→SharedT→Thread→Option SharedT
 | 0,_,_=>none
 | m + 1,x,th=>bif through th then some x else bif stepOk lo an th then (stepT (denote B) p w x th).bind (fun y=>runT B p w lo an m y.1 y.2) else none
theorem znS {B:String→Option Builtin} {p:Program} {w:World} {lo:Nat} {an:Option Value} (m:Nat) :
  ∀ (x y:SharedT) (th:Thread),runT B p w lo an m x th=some y→topRun B p w lo an m x.abs th=some y.abs:=by
 induction m with
 | zero=>intro x y th z;cases z
 | succ m ih =>
  intro x y th z
  unfold runT at z;unfold topRun
  cases a:through th <;> rw [a] at z
  ·cases b:stepOk lo an th <;> rw [b] at z
   ·cases z
   ·obtain ⟨u,hu,z'⟩:=Option.bind_eq_some_iff.mp (show (stepT (denote B) p w x th).bind _=some y from z)
    dsimp only
    rw [stepT_spec (s':=u.1) (t':=u.2) hu]
    exact ih _ _ _ z'
  ·cases z;rfl
def grow:List Obj→BT→Nat→BT
 | [],T,_=>T
 | o :: l,T,n=>grow l (T.ins n o) (n + 1)
noncomputable def boot (w:World) (os:OsState):SharedT:=⟨grow (boot_heap w.params).objs.toList .nil 0,11,(boot_heap w.params).life,#[],boot_drawn,boot_toks,os⟩
noncomputable def ends (p:Program) (N:Nat) (w:World) (os:OsState):Option SharedT:=runT treeTable p w 11 (some (.ref 6)) N (boot w os) (topStub p)
theorem ziD (w:World):((boot_heap w.params).isNs mainGlobals && (#[] : Array GenState).size == 0,(boot_heap w.params).objs.size,(boot_heap w.params).nsMap mainGlobals "__annotations__")=(true,11,some (Value.ref 6)):=by kernel_rfl
theorem boot_abs (w:World) (os:OsState):(boot w os).abs=⟨boot_heap w.params,#[],boot_drawn,boot_toks,os⟩:=by kernel_rfl
def fits (p:Program) (h:Heap) (y:SharedT):Bool:=staticsOk (importedModules p.main.body) h y.abs.heap && namesBound p y.abs.heap && gensDone y.abs && laidKept h y.abs.heap
theorem left {p q:Program} {loose:List Str} {Xt:Shared→Bool} {α:Type} {Yf:Shared→α} {Ya:World→α} {N:Nat} {g0:Bool}
  (plain:opening p=plainProg p.main.scope.names) (hN:Nat.ble 600 N=true) (fence:∀ s,fenceModules? p s=some s)
  (tests:∀ (w:World) (os:OsState),(ends p N w os).map (fits p (boot_heap w.params))=some true)
  (zl8:∀ (w:World) (os:OsState),(ends p N w os).map (fun y=>openSeen q loose (importedModules p.main.body) Xt g0 y.abs)=some (openGood q loose))
  (hook:∀ (w:World) (os:OsState),(ends p N w os).map (fun y=>Yf y.abs)=some (Ya w)) :
  LeftO p q loose Xt Yf Ya N g0:=by
 intro w
 obtain ⟨⟨hp,ge,dr,tk,os⟩,ho,hq⟩:=Option.map_eq_some_iff.mp (boot_open plain hN fence w)
 simp only [Prod.mk.injEq] at hq
 obtain ⟨rfl,rfl,rfl,rfl⟩:=hq
 have bs:=ziD w
 simp only [Prod.mk.injEq] at bs
 obtain ⟨y,hy,a1⟩:=Option.map_eq_some_iff.mp (tests w os)
 have a2:=zl8 w os
 have a3:=hook w os
 rw [hy] at a2 a3
 have rr:=znS _ _ _ _ hy
 rw [boot_abs] at rr
 have tt:topFrom treeTable p w N ⟨boot_heap w.params,#[],boot_drawn,boot_toks,os⟩ = some y.abs:=by
  unfold topFrom;dsimp only
  rw [bs.1,bs.2.1,bs.2.2,rr]
  show (match fits p (boot_heap w.params) y with | true=>some y.abs | false=>none)=some y.abs
  rw [a1]
 show ((fencedOpening treeTable p w N).bind (topFrom treeTable p w N)).map _=_
 rw [ho,Option.bind_some,tt,Option.map_some,Option.some.injEq,Prod.mk.injEq]
 exact ⟨Option.some.inj a2,Option.some.inj a3⟩
end HD
namespace HD
open PySem PySem.W PyProof.Rows
set_option maxRecDepth 100000
set_option maxHeartbeats 0
noncomputable def znU (ds:List Nat) (l:List Stmt):List Stmt:=@List.rec Stmt (fun _=>Nat→List Stmt) (fun _=>[]) (fun s _ f i=>@Bool.rec (fun _=>List Stmt) (s :: f (Nat.succ i)) (f (Nat.succ i)) (ds.any (Nat.beq i))) l 0
noncomputable def kept:Program:={ PySem.Challenge.pw_rankpouch_k74_sums_of_the_last with main:={ PySem.Challenge.pw_rankpouch_k74_sums_of_the_last.main with body:=znU [0,10,14] PySem.Challenge.pw_rankpouch_k74_sums_of_the_last.main.body } }
noncomputable def seenX (s:Shared):Bool:=xlAt kept [] s && recOk (RowW.records (OpenRow.toRowW (OpenLaw.row PySem.Challenge.rw_rankpouch_k74_sums_of_the_last))) s
theorem said:OpenLaw.wellSaid PySem.Challenge.rw_rankpouch_k74_sums_of_the_last=true:=by kernel_rfl
theorem plain:opening PySem.Challenge.pw_rankpouch_k74_sums_of_the_last=plainProg PySem.Challenge.pw_rankpouch_k74_sums_of_the_last.main.scope.names:=by kernel_rfl
theorem fence (s:Shared):fenceModules? PySem.Challenge.pw_rankpouch_k74_sums_of_the_last s=some s:=by kernel_rfl
theorem tests (w:World) (os:OsState):(ends PySem.Challenge.pw_rankpouch_k74_sums_of_the_last 5540 w os).map (fits PySem.Challenge.pw_rankpouch_k74_sums_of_the_last (boot_heap w.params))=some true:=by kernel_rfl
theorem zl8 (w:World) (os:OsState):(ends PySem.Challenge.pw_rankpouch_k74_sums_of_the_last 5540 w os).map (fun y=>openSeen kept [] (importedModules PySem.Challenge.pw_rankpouch_k74_sums_of_the_last.main.body) seenX true y.abs)=some (openGood kept []):=by kernel_rfl
end HD
open PySem PySem.W PyProof.Rows
local macro_rules
 | `(tactic| o_head $H)=>`(tactic| refine holds_open (q:=HD.kept) (loose:=[]) (N:=5540) (Xt:=HD.seenX)
   (XP:=XL HD.kept []) (Yf:=Hook.obs $H) (Ya:=Hook.val $H) (YP:=Hook.says $H)
   ?_ (Hook.of $H) (Hook.keeps $H) (fun s e=>xl_of s (Bool.and_eq_true_iff.mp e).1) XL.keeps
   (by rfl) (by rfl) (by rfl) (fun s e=>recFacts_of (Bool.and_eq_true_iff.mp e).2)
   (by rfl) (by assumption) (by decide +kernel) ⟨rfl,rfl,rfl,rfl,rfl,by decide +kernel⟩ ?_ ?_)
set_option maxRecDepth 100000 in
set_option maxHeartbeats 0 in
theorem PySem.Challenge.cw_rankpouch_k74_sums_of_the_last_holds : PySem.Challenge.rw_rankpouch_k74_sums_of_the_last.Holds := by
 w_on
 refine holds_law HD.said fun said=>?_
 k_head
 ·clear said
  refine HD.left HD.plain (by kernel_rfl) HD.fence HD.tests HD.zl8 ?_
  intro w os
  kernel_rfl
 ·clear said
  w_witness2
 clear said
 k_fill
 refine K74.walk (l:=PySem.Challenge.rw_rankpouch_k74_sums_of_the_last) rfl rfl (fun w h Y=>PySem.W.kIn_of Y) ?F
 case F =>
  intro w mg fa h KX G hmg
  refine' K74.all_mk KX G hmg ?a0 ?l0 ?c0 ?k0 ?a1 ?l1 ?c1 ?k1 ?a2 ?l2 ?c2 ?k2 ?a3 ?l3 ?c3 ?k3 ?a4 ?l4 ?c4 ?k4 ?a5 ?l5 ?c5 ?k5 ?a6 ?l6 ?c6 ?k6 ?a7 ?l7 ?c7 ?k7 ?a8 ?l8 ?c8 ?k8 ?a9 ?l9 ?c9 ?k9 ?zcZ ?ziS ?zlT ?zc5 ?zmj ?zlP ?zlS ?zg4 ?zdH ?zk4 ?zg2 ?zbK ?zd4 ?zaA ?zct ?zda ?zdZ ?zcs ?zc7 ?zdb ?o_RankError ?zcL ?zcQ ?zcR ?zc2 ?zcK ?o_NoRow ?zft ?zfM ?zfr ?zfL ?zfR ?o_NoPlace ?zd2 ?zdV ?zd1 ?zdQ ?zdB ?o_NoPouch ?zdM ?zdN ?zd3 ?zdX ?zdJ ?o_NoSize ?zeV ?zeU ?zeQ ?ze2 ?zeN ?o_Wrong ?zfP ?zfO ?zfx ?zfy ?zfs ?o_NoTimes ?zdK ?zdC ?zdE ?zdP ?zdY ?o_Unlike ?zeK ?zeD ?zey ?zeL ?zeT ?o_NoText ?zeF ?ze4 ?ze0 ?zeO ?zet ?zdo ?zdO ?zaX ?zbG ?zbd ?zbe ?zbq ?zbC ?zbh ?zbn ?zbr ?zce ?at_Sums___init__ ?lm_Sums___init__ ?cm_Sums___init__ ?km_Sums___init__ ?im_Sums___init__ ?at_Sums_put ?lm_Sums_put ?cm_Sums_put ?km_Sums_put ?im_Sums_put ?at_Sums_lay ?lm_Sums_lay ?cm_Sums_lay ?km_Sums_lay ?im_Sums_lay ?at_Sums_blocks ?lm_Sums_blocks ?cm_Sums_blocks ?km_Sums_blocks ?im_Sums_blocks ?at_Sums_last ?lm_Sums_last ?cm_Sums_last ?km_Sums_last ?im_Sums_last ?pg_Sums ?hd_Sums ?po_Sums ?zhh ?mk_Sums ?kc_Sums ?na_Sums_keep ?na_Sums_levels ?na_Sums_many
  (case a0=>k_is)
  (case l0=>k_is)
  (case c0=>k_is)
  (case k0=>k_is)
  (case a1=>k_is)
  (case l1=>k_is)
  (case c1=>k_is)
  (case k1=>k_is)
  (case a2=>k_is)
  (case l2=>k_is)
  (case c2=>k_is)
  (case k2=>k_is)
  (case a3=>k_is)
  (case l3=>k_is)
  (case c3=>k_is)
  (case k3=>k_is)
  (case a4=>k_is)
  (case l4=>k_is)
  (case c4=>k_is)
  (case k4=>k_is)
  (case a5=>k_is)
  (case l5=>k_is)
  (case c5=>k_is)
  (case k5=>k_is)
  (case a6=>k_is)
  (case l6=>k_is)
  (case c6=>k_is)
  (case k6=>k_is)
  (case a7=>k_is)
  (case l7=>k_is)
  (case c7=>k_is)
  (case k7=>k_is)
  (case a8=>k_is)
  (case l8=>k_is)
  (case c8=>k_is)
  (case k8=>k_is)
  (case a9=>k_is)
  (case l9=>k_is)
  (case c9=>k_is)
  (case k9=>k_is)
  (case zcZ=>k_is)
  (case ziS=>k_is)
  (case zlT=>k_is)
  (case zc5=>k_is)
  (case zmj=>k_is)
  (case zlP=>k_is)
  (case zlS=>k_is)
  (case zg4=>k_is)
  (case zdH=>k_is)
  (case zk4=>k_is)
  (case zg2=>k_is)
  (case zbK=>k_is)
  (case zd4=>k_is)
  (case zaA=>k_is)
  (case zct=>k_is)
  (case zda=>k_is)
  (case zdZ=>k_is)
  (case zcs=>k_is)
  (case zc7=>k_is)
  (case zdb=>k_is)
  (case o_RankError=>k_is)
  (case zcL=>k_is)
  (case zcQ=>k_is)
  (case zcR=>k_is)
  (case zc2=>k_is)
  (case zcK=>k_is)
  (case o_NoRow=>k_is)
  (case zft=>k_is)
  (case zfM=>k_is)
  (case zfr=>k_is)
  (case zfL=>k_is)
  (case zfR=>k_is)
  (case o_NoPlace=>k_is)
  (case zd2=>k_is)
  (case zdV=>k_is)
  (case zd1=>k_is)
  (case zdQ=>k_is)
  (case zdB=>k_is)
  (case o_NoPouch=>k_is)
  (case zdM=>k_is)
  (case zdN=>k_is)
  (case zd3=>k_is)
  (case zdX=>k_is)
  (case zdJ=>k_is)
  (case o_NoSize=>k_is)
  (case zeV=>k_is)
  (case zeU=>k_is)
  (case zeQ=>k_is)
  (case ze2=>k_is)
  (case zeN=>k_is)
  (case o_Wrong=>k_is)
  (case zfP=>k_is)
  (case zfO=>k_is)
  (case zfx=>k_is)
  (case zfy=>k_is)
  (case zfs=>k_is)
  (case o_NoTimes=>k_is)
  (case zdK=>k_is)
  (case zdC=>k_is)
  (case zdE=>k_is)
  (case zdP=>k_is)
  (case zdY=>k_is)
  (case o_Unlike=>k_is)
  (case zeK=>k_is)
  (case zeD=>k_is)
  (case zey=>k_is)
  (case zeL=>k_is)
  (case zeT=>k_is)
  (case o_NoText=>k_is)
  (case zeF=>k_is)
  (case ze4=>k_is)
  (case ze0=>k_is)
  (case zeO=>k_is)
  (case zet=>k_is)
  (case zdo=>k_exc)
  (case zdO=>k_is)
  (case zaX=>k_is)
  (case zbG=>k_is)
  (case zbd=>k_is)
  (case zbe=>k_is)
  (case zbq=>k_is)
  (case zbC=>k_is)
  (case zbh=>k_is)
  (case zbn=>k_is)
  (case zbr=>k_is)
  (case zce=>k_is)
  (case at_Sums___init__=>k_is)
  (case lm_Sums___init__=>k_is)
  (case cm_Sums___init__=>k_is)
  (case km_Sums___init__=>k_is)
  (case im_Sums___init__=>kernel_rfl)
  (case at_Sums_put=>k_is)
  (case lm_Sums_put=>k_is)
  (case cm_Sums_put=>k_is)
  (case km_Sums_put=>k_is)
  (case im_Sums_put=>kernel_rfl)
  (case at_Sums_lay=>k_is)
  (case lm_Sums_lay=>k_is)
  (case cm_Sums_lay=>k_is)
  (case km_Sums_lay=>k_is)
  (case im_Sums_lay=>kernel_rfl)
  (case at_Sums_blocks=>k_is)
  (case lm_Sums_blocks=>k_is)
  (case cm_Sums_blocks=>k_is)
  (case km_Sums_blocks=>k_is)
  (case im_Sums_blocks=>kernel_rfl)
  (case at_Sums_last=>k_is)
  (case lm_Sums_last=>k_is)
  (case cm_Sums_last=>k_is)
  (case km_Sums_last=>k_is)
  (case im_Sums_last=>kernel_rfl)
  (case pg_Sums=>kernel_rfl)
  (case hd_Sums=>kernel_rfl)
  (case po_Sums=>kernel_rfl)
  (case zhh=>k_is)
  (case mk_Sums=>kernel_rfl)
  (case kc_Sums=>k_is)
  (case na_Sums_keep=>k_is)
  (case na_Sums_levels=>k_is)
  (case na_Sums_many=>k_is)
