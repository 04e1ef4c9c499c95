import PyProof.Rows.All
import KE.KDictList
import KE.KItemsList
import KE.KRevIter
import KE.KSortTup
import KE.KUnpack
import PyProof.Draws
import PyProof.ExcClass3
import PyProof.ExcInit
import PyProof.InstStoreFacts
import PyProof.MaxThree
import PyProof.P3In
import PyProof.Rows.FStr
import PyProof.ZipIter
import Wide.All
import OpenK.AllK
import Wide.FinOn
import Lean
import PyProof.EqAt
import PyProof.EqKinds
import PyProof.TupleCall
import PySem.Challenge.RW_rankpouch_k73_blocks_of_sums
set_option Elab.async false
set_option linter.all false
set_option maxRecDepth 100000
namespace L2
open PySem PySem.Spec PyProof.Rows
abbrev Key:=Sum Int Str
def zlL:Key→Value→Bool
 | .inl k,v=>Value.isInt k v
 | .inr x,v=>Value.isStrOf x v
def keyH (w:World):Key→Int
 | .inl k=>hashInt k
 | .inr x=>hashStr w x
theorem zaF:∀ {k:Key} {v:Value},zlL k v=true→(∃ i t,k=Sum.inl i∧v=Value.int i t)∨(∃ x t,k=Sum.inr x∧v=Value.str x t)
 | .inl i,v,h=>by
  obtain ⟨t,e⟩:=Value.isInt_shape (k:=i) (v:=v) h
  exact .inl ⟨i,t,rfl,e⟩
 | .inr x,v,h=>by
  obtain ⟨t,e⟩:=Value.isStrOf_shape (x:=x) (v:=v) h
  exact .inr ⟨x,t,rfl,e⟩
theorem zkS (a b:Int):decide ((Sum.inl a:Key)=Sum.inl b)=(a == b):=by
 by_cases e:a=b
 ·subst e;simp
 ·have h:¬ (Sum.inl a:Key)=Sum.inl b:=fun q=>e (Sum.inl.inj q)
  rw [decide_eq_false h]
  exact (beq_eq_false_iff_ne.mpr e).symm
theorem zlr (a b:Str):decide ((Sum.inr a:Key)=Sum.inr b)=decide (a=b):=by
 by_cases e:a=b
 ·subst e;simp
 ·have h:¬ (Sum.inr a:Key)=Sum.inr b:=fun q=>e (Sum.inr.inj q)
  rw [decide_eq_false h,decide_eq_false e]
theorem zlg (a:Int) (b:Str):decide ((Sum.inl a:Key)=Sum.inr b)=false:=decide_eq_false (fun q=>nomatch q)
theorem zk5 (a:Str) (b:Int):decide ((Sum.inr a:Key)=Sum.inl b)=false:=decide_eq_false (fun q=>nomatch q)
def zgT (prog:Program) (w:World):PySem.KeyKind prog w Key where
 is:=zlL
 hash:=keyH w
 inj:=fun v a b ha hb=>by
  rcases zaF ha with ⟨i,t,rfl,rfl⟩ | ⟨x,t,rfl,rfl⟩
  ·rcases zaF hb with ⟨j,u,rfl,e⟩ | ⟨y,u,rfl,e⟩
   ·injection e with e1 _;rw [e1]
   ·exact nomatch e
  ·rcases zaF hb with ⟨j,u,rfl,e⟩ | ⟨y,u,rfl,e⟩
   ·exact nomatch e
   ·injection e with e1 _;rw [e1]
 byValue:=fun k v h=>by
  rcases zaF h with ⟨i,t,rfl,rfl⟩ | ⟨x,t,rfl,rfl⟩ <;> rfl
 pyHash:=fun hv h=>by
  rcases zaF hv with ⟨i,t,rfl,rfl⟩ | ⟨x,t,rfl,rfl⟩
  ·exact wpAny_pyHash_int h
  ·exact wpAny_pyHash_str h
 eqBool:=fun hu hv h=>by
  rcases zaF hu with ⟨i,t,rfl,rfl⟩ | ⟨x,t,rfl,rfl⟩
  ·rcases zaF hv with ⟨j,u,rfl,rfl⟩ | ⟨y,u,rfl,rfl⟩
   ·rw [zkS] at h;exact wpAny_eqBool_int h
   ·rw [zlg] at h;exact SeqAt.EqAt.int_str i t y u _ _ _ _ h
  ·rcases zaF hv with ⟨j,u,rfl,rfl⟩ | ⟨y,u,rfl,rfl⟩
   ·rw [zk5] at h;exact SeqAt.EqAt.str_int x t j u _ _ _ _ h
   ·rw [zlr] at h;exact wpAny_eqBool_str h
 «strs»:=fun k x t v h=>by
  rcases zaF h with ⟨i,u,rfl,e⟩ | ⟨y,u,rfl,e⟩
  ·exact nomatch e
  ·injection e with e1 _
   subst e1
   cases v <;> rfl
end L2
namespace L2
open PySem PySem.Spec PyProof.Rows
inductive V where
 | non | bl (b:Bool) | int (i:Int) | str (x:Str) | byt (b:Array UInt8) | flt (b:UInt64) | ref (a:Addr) | ty (n:String)
 deriving DecidableEq
def RelV:V→Value→Prop
 | .non,u=>u=Value.none
 | .bl b,u=>u=Value.bool b
 | .int i,u=>∃ t,u=Value.int i t
 | .str x,u=>∃ t,u=Value.str x t
 | .byt b,u=>∃ t,u=Value.bytes b t
 | .flt b,u=>∃ t,u=Value.float b t
 | .ref a,u=>u=Value.ref a
 | .ty n,u=>u=Value.type n
abbrev Vals:List V→List Value→Prop:=Paired RelV
theorem Vals.length {xs:List V} {us:List Value} (r:Vals xs us):xs.length=us.length:=Paired.length r
theorem Vals.get:∀ {xs:List V} {us:List Value} {i:Nat} {x:V},Vals xs us→xs[i]? = some x→∃ u,us[i]? = some u∧RelV x u
 | _,_,_,_, .nil,e=>by simp at e
 | _,_,0,_, .cons r _,e=>by simp at e;subst e;exact ⟨_,rfl,r⟩
 | _,_,i + 1,x, .cons _ t,e=>by
  obtain ⟨u,h1,h2⟩:=Vals.get (i:=i) (x:=x) t (by simpa using e)
  exact ⟨u,by simpa using h1,h2⟩
theorem Vals.set {x:V} {u:Value} (r:RelV x u):∀ {xs:List V} {us:List Value} (i:Nat),Vals xs us→Vals (xs.set i x) (us.set i u)
 | _,_,_, .nil => .nil
 | _,_,0, .cons _ t => .cons r t
 | _,_,i + 1, .cons q t => .cons q (Vals.set r i t)
theorem Vals.append:∀ {xs ys:List V} {us ws:List Value},Vals xs us→Vals ys ws→Vals (xs ++ ys) (us ++ ws)
 | _,_,_,_, .nil,s=>s
 | _,_,_,_, .cons r t,s => .cons r (Vals.append t s)
theorem Vals.take:∀ {xs:List V} {us:List Value} (n:Nat),Vals xs us→Vals (xs.take n) (us.take n)
 | _,_,0,_ => .nil
 | _,_,_ + 1, .nil => .nil
 | _,_,n + 1, .cons r t => .cons r (Vals.take n t)
theorem Vals.drop:∀ {xs:List V} {us:List Value} (n:Nat),Vals xs us→Vals (xs.drop n) (us.drop n)
 | _,_,0,r=>r
 | _,_,_ + 1, .nil => .nil
 | _,_,n + 1, .cons _ t=>Vals.drop n t
def RelO:Option V→Option Value→Prop
 | some v,some u=>RelV v u
 | none,none=>True
 | _,_=>False
def KV {κ:Type}:List (κ × V)→List (κ × Value)→Prop:=Paired fun (p:κ × V) (q:κ × Value)=>p.1=q.1∧RelV p.2 q.2
def kV:Key→V
 | .inl i => .int i
 | .inr x => .str x
inductive HO where
 | lst (xs:List V)
 | tup (xs:List V)
 | dK (kvs:List (Key × V)) | dT (kvs:List (List Key × V))
 | set (S:Int→Bool) (n:Nat)
 | ins (C dx:Addr) (fs:List (Str × V))
 | own (x:Addr)
 | xd (fs:List (Str × V))
 | met (f x:Addr)
 | rng (lo hi:Int)
 | frz (o:Obj) (u:HO)
 | tbl (ps:Array Value)
 | ext (φ:Heap→Prop)
abbrev Hp:=Addr→Option HO
def upd (H:Hp) (a:Addr) (o:HO):Hp:=fun b=>if b=a then some o else H b
theorem zaq {H:Hp} {a:Addr} {o:HO}:upd H a o a=some o:=by unfold upd;rw [if_pos rfl]
theorem zai {H:Hp} {a b:Addr} {o:HO} (h:b ≠ a):upd H a o b=H b:=by unfold upd;rw [if_neg h]
theorem zlD {H:Hp} {a b:Addr} {o u:HO} (h:H a=some o) (h':H b=some u) (d:o ≠ u):a ≠ b:=by
 intro e;subst e;rw [h] at h';exact d (Option.some.inj h')
theorem zau {H:Hp} {a b:Addr} {o:HO} (h:H a=some o) (h':H b=none):a ≠ b:=by
 intro e;subst e;rw [h] at h';cases h'
section
variable (P:Program) (w:World)
def zbS (H:Hp) (h:Heap) (a:Addr):HO→Prop
 | .lst xs=>xs.length ≤ sizeLine∧∃ (its:List Value) (n:Nat),Vals xs its∧h.get? a=some { cls := .type "list",data := .seq its.toArray n }
 | .tup xs=>xs.length ≤ sizeLine∧∃ its:List Value,Vals xs its∧IsTup h a its.toArray
 | .dK kvs=>kvs.length ≤ sizeLine∧(a == sysModules)=false∧∃ vs,KV kvs vs∧h.DictOf (zgT P w) a vs
 | .dT kvs=>kvs.length ≤ sizeLine∧(a == sysModules)=false∧∃ xs:List (List Key × Addr × Value),
   Paired (fun (p:List Key × V) (q:List Key × Addr × Value)=>p.1=q.1∧H q.2.1=some (.tup (p.1.map kV))∧RelV p.2 q.2.2) kvs xs ∧
   ∃ o es ep,h.get? a=some o∧o.ExactDict∧o.data = .dict es ep∧es.toList=xs.map (entryOfKey (tupleKind (zgT P w)))∧(xs.map (·.1)).Nodup
 | .set S n=>h.SetOf (intKind P w) a S n
 | .ins C dx fs=>H dx=some (.own a)∧fs.length ≤ 1000∧dx ≠ a∧h.get? a=some (PySem.W.instObj C dx) ∧
   ∃ mA,h.Ns1 dx mA∧(∀ f,RelO (fs.lookup f) (mA f))∧PySem.Within mA (fs.map (·.1))
 | .own _=>∃ o,h.get? a=some o
 | .xd fs=>∃ mA,h.Ns1 a mA∧∀ f,RelO (fs.lookup f) (mA f)
 | .rng lo hi=>∃ t u v,h.get? a=some { cls := .type "range",data := .fields #[.int lo t, .int hi u, .int 1 v] }
 | .frz o u=>h.get? a=some o∧zbS H h a u
 | .tbl ps=>h.get? a=some { cls := .none,data := .fields ps }
 | .met f x=>h.get? a=some (PySem.W.methodObj (.ref f) (.ref x))
 | .ext φ=>φ h∧(∃ o,h.get? a=some o)∧∀ h1 h2:Heap,φ h1→(∀ o,h1.get? a=some o→h2.get? a=some o)→φ h2
def HOk (H:Hp) (h:Heap):Prop:=∀ a o,H a=some o→zbS P w H h a o
end
section
variable {P:Program} {w:World} {H H':Hp} {h h':Heap} {a:Addr} {o:HO}
theorem zbS.lt (x:zbS P w H h a o):a < h.objs.size:=by
 cases o with
 | lst xs=>obtain ⟨_,_,_,_,e⟩:=x;exact Heap.lt_size e
 | tup xs=>obtain ⟨_,_,_,p⟩:=x;exact p.lt
 | dK kvs=>obtain ⟨_,_,_,_,o,_,_,e,_⟩:=x;exact Heap.lt_size e
 | dT kvs=>obtain ⟨_,_,_,_,o,_,_,e,_⟩:=x;exact Heap.lt_size e
 | set S n=>obtain ⟨o,_,_,_,e,_⟩:=x;exact Heap.lt_size e
 | ins C dx fs=>obtain ⟨_,_,_,e,_⟩:=x;exact Heap.lt_size e
 | own y=>obtain ⟨_,e⟩:=x;exact Heap.lt_size e
 | xd fs=>obtain ⟨_,⟨_,_,_,e,_⟩,_⟩:=x;exact Heap.lt_size e
 | rng lo hi=>obtain ⟨_,_,_,e⟩:=x;exact Heap.lt_size e
 | frz ob u=>obtain ⟨e,_⟩:=x;exact Heap.lt_size e
 | tbl ps=>exact Heap.lt_size (show h.get? a=some _ from x)
 | met f y=>exact Heap.lt_size (show h.get? a=some _ from x)
 | ext φ=>obtain ⟨_,⟨_,e⟩,_⟩:=x;exact Heap.lt_size e
theorem Paired.mapP {α β:Type} {F G:α→β→Prop}:∀ {l₁:List α} {l₂:List β},Paired F l₁ l₂→(∀ a b,F a b→G a b)→Paired G l₁ l₂
 | _,_, .nil,_ => .nil
 | _,_, .cons r t,f => .cons (f _ _ r) (Paired.mapP t f)
theorem zbS.stay (x:zbS P w H h a o) (k:∀ b u,(b=a∨H b=some (.own a))→h.get? b=some u→h'.get? b=some u)
  (ho:∀ b,H b=some (.own a)→H' b=some (.own a)) (ht:∀ b xs,H b=some (.tup xs)→H' b=some (.tup xs)):zbS P w H' h' a o:=by
 induction o with
 | lst xs=>obtain ⟨z,its,n,r,e⟩:=x;exact ⟨z,its,n,r,k _ _ (.inl rfl) e⟩
 | tup xs=>obtain ⟨z,its,r,ob,e,c⟩:=x;exact ⟨z,its,r,ob,k _ _ (.inl rfl) e,c⟩
 | dK kvs=>obtain ⟨z,y,vs,r,ob,es,ep,e,c⟩:=x;exact ⟨z,y,vs,r,ob,es,ep,k _ _ (.inl rfl) e,c⟩
 | dT kvs =>
  obtain ⟨z,y,xs,r,ob,es,ep,e,c⟩:=x
  exact ⟨z,y,xs,Paired.mapP r fun p q z=>⟨z.1,ht _ _ z.2.1,z.2.2⟩,ob,es,ep,k _ _ (.inl rfl) e,c⟩
 | set S n=>obtain ⟨ob,es,ep,t,e,c⟩:=x;exact ⟨ob,es,ep,t,k _ _ (.inl rfl) e,c⟩
 | ins C dx fs =>
  obtain ⟨d,z,ne,e,mA,⟨od,es,ep,e2,c⟩,r⟩:=x
  exact ⟨ho _ d,z,ne,k _ _ (.inl rfl) e,mA,⟨od,es,ep,k _ _ (.inr d) e2,c⟩,r⟩
 | own y=>obtain ⟨ob,e⟩:=x;exact ⟨ob,k _ _ (.inl rfl) e⟩
 | xd fs=>obtain ⟨mA,⟨od,es,ep,e,c⟩,r⟩:=x;exact ⟨mA,⟨od,es,ep,k _ _ (.inl rfl) e,c⟩,r⟩
 | rng lo hi=>obtain ⟨t,u,v,e⟩:=x;exact ⟨t,u,v,k _ _ (.inl rfl) e⟩
 | frz ob u ih=>obtain ⟨e,q⟩:=x;exact ⟨k _ _ (.inl rfl) e,ih q⟩
 | tbl ps =>
  have e:h.get? a=some { cls := .none,data := .fields ps }:=x
  show h'.get? a=some { cls := .none,data := .fields ps }
  exact k a _ (.inl rfl) e
 | met f y =>
  have e:h.get? a=some (PySem.W.methodObj (.ref f) (.ref y)):=x
  show h'.get? a=some (PySem.W.methodObj (.ref f) (.ref y))
  exact k a _ (.inl rfl) e
 | ext φ=>obtain ⟨p,⟨o,e⟩,st⟩:=x;exact ⟨st _ _ p fun o q=>k _ _ (.inl rfl) q,⟨o,k _ _ (.inl rfl) e⟩,st⟩
theorem HOk.lt (x:HOk P w H h) (e:H a=some o):a < h.objs.size:=(x a o e).lt
theorem HOk.fresh (x:HOk P w H h) (e:h.objs.size ≤ a):H a=none:=by
 cases q:H a with
 | none=>rfl
 | some u=>exact absurd (Nat.lt_of_lt_of_le (x.lt q) e) (Nat.lt_irrefl _)
theorem HOk.kept (x:HOk P w H h) (k:∀ b u,h.get? b=some u→h'.get? b=some u):HOk P w H h':=fun a o e =>
 (x a o e).stay (fun b u _ q=>k b u q) (fun _ q=>q) fun _ _ q=>q
theorem HOk.laid (x:HOk P w H h) (k:∀ b u,h.get? b=some u→h'.get? b=some u) (hp:h.objs.size ≤ a) (new:zbS P w (upd H a o) h' a o):HOk P w (upd H a o) h':=fun b u e=>by
 have hn:=x.fresh hp
 by_cases hb:b=a
 ·subst hb;rw [zaq] at e;cases e;exact new
 ·rw [zai hb] at e
  exact (x b u e).stay (fun c v _ q=>k c v q) (fun c q=>by rw [zai (zau q hn)];exact q) fun c xs q=>by rw [zai (zau q hn)];exact q
end
def Rd (H:Hp) (a:Addr) (u:HO):Prop:=H a=some u∨∃ o,H a=some (.frz o u)
theorem Rd.of {H:Hp} {a:Addr} {u:HO} (h:H a=some u):Rd H a u := .inl h
theorem Rd.ok {P:Program} {w:World} {H:Hp} {h:Heap} {a:Addr} {u:HO} (r:Rd H a u) (x:HOk P w H h):zbS P w H h a u:=by
 rcases r with r | ⟨o,r⟩
 ·exact x a u r
 ·obtain ⟨_,q⟩:=x a _ r
  exact q
def Mut:Option HO→Prop
 | some (.lst _)=>True
 | some (.dK _)=>True
 | some (.dT _)=>True
 | some (.set _ _)=>True
 | some (.ins _ _ _)=>True
 | some (.ext _)=>True
 | _=>False
section
variable {P:Program} {w:World} {H:Hp} {h h':Heap} {x e:Addr} {o':HO}
theorem HOk.write (ok:HOk P w H h) (mu:Mut (H x)) (he:e=x∨H e=some (.own x)) (k:∀ b u,b ≠ e→h.get? b=some u→h'.get? b=some u) (heo:∃ u,h'.get? e=some u)
  (new:zbS P w (upd H x o') h' x o'):HOk P w (upd H x o') h':=fun b u q=>by
 have nown:∀ c y,H c=some (.own y)→c ≠ x:=fun c y r z=>by subst z;rw [r] at mu;exact mu
 have ntup:∀ c xs,H c=some (.tup xs)→c ≠ x:=fun c xs r z=>by subst z;rw [r] at mu;exact mu
 by_cases hb:b=x
 ·subst hb;rw [zaq] at q;cases q;exact new
 ·rw [zai hb] at q
  by_cases hbe:b=e
  ·have q':H b=some (.own x):=by
    rcases he with z | z
    ·exact absurd (hbe.trans z) hb
    ·rw [hbe];exact z
   rw [q] at q';cases q'
   obtain ⟨v,hv⟩:=heo
   exact ⟨v,by rw [hbe];exact hv⟩
  ·refine (ok b u q).stay (fun c v hc r=>k c v ?_ r) (fun c r=>by rw [zai (nown c b r)];exact r) fun c xs r=>by rw [zai (ntup c xs r)];exact r
   rcases hc with rfl | hc
   ·exact hbe
   ·rintro rfl
    rcases he with z | z
    ·exact nown c b hc z
    ·rw [hc] at z;cases z;exact hb rfl
end
structure Un (fs ex:List Addr) (H H':Hp) (h h':Heap):Prop where
 keep:∀ b o,h.get? b=some o→H b=none→b ∉ fs→b ∉ ex→h'.get? b=some o
 slot:∀ b o,h.get? b=some o→H b=none→b ∈ fs→b ∉ ex→∃ sl,h'.get? b=some { o with slots:=sl }
 free:∀ b o,h.get? b=some o→H b=none→b ∉ ex→H' b=none
 there:∀ b o,h.get? b=some o→b ∉ ex→∃ o',h'.get? b=some o'
 tups:∀ b xs,H b=some (.tup xs)→H' b=some (.tup xs)
 frzs:∀ b o u,H b=some (.frz o u)→H' b=some (.frz o u)
 tbls:∀ b ps,H b=some (.tbl ps)→∃ more,H' b=some (.tbl (ps ++ more))
section
variable {fs fs' ex ex':List Addr} {H H1 H2:Hp} {h h1 h2 h':Heap} {a x e:Addr} {o:HO}
theorem Un.any (u:Un fs ex H H1 h h1) {b:Addr} {ob:Obj} (q:h.get? b=some ob) (n:H b=none) (hx:b ∉ ex):∃ sl,h1.get? b=some { ob with slots:=sl }:=by
 by_cases hb:b ∈ fs
 ·exact u.slot b ob q n hb hx
 ·exact ⟨ob.slots,u.keep b ob q n hb hx⟩
theorem Un.trans (a:Un fs ex H H1 h h1) (b:Un fs ex H1 H2 h1 h2):Un fs ex H H2 h h2 where
 keep:=fun c ob q n hc hx=>b.keep c ob (a.keep c ob q n hc hx) (a.free c ob q n hx) hc hx
 slot:=fun c ob q n hc hx=>by
  obtain ⟨sl,e1⟩:=a.slot c ob q n hc hx
  obtain ⟨sl',e2⟩:=b.slot c _ e1 (a.free c ob q n hx) hc hx
  exact ⟨sl',e2⟩
 free:=fun c ob q n hx=>by
  obtain ⟨o',e1⟩:=a.there c ob q hx
  exact b.free c o' e1 (a.free c ob q n hx) hx
 there:=fun c ob q hx=>by
  obtain ⟨o',e1⟩:=a.there c ob q hx
  exact b.there c o' e1 hx
 tups:=fun c xs q=>b.tups c xs (a.tups c xs q)
 frzs:=fun c ob xs q=>b.frzs c ob xs (a.frzs c ob xs q)
 tbls:=fun c ps q=>by
  obtain ⟨m1,e1⟩:=a.tbls c ps q
  obtain ⟨m2,e2⟩:=b.tbls c _ e1
  exact ⟨m1 ++ m2,by rw [e2,Array.append_assoc]⟩
theorem Un.kept (k:∀ b u,h.get? b=some u→h'.get? b=some u):Un fs ex H H h h' :=
 ⟨fun b ob q _ _ _=>k b ob q,fun b ob q _ _ _=>⟨ob.slots,k b ob q⟩,fun _ _ _ n _=>n,fun b ob q _=>⟨ob,k b ob q⟩,fun _ _ q=>q,fun _ _ _ q=>q,fun _ ps q=>⟨#[],by rw [q];simp⟩⟩
theorem Un.refl:Un fs ex H H h h:=Un.kept fun _ _ q=>q
theorem Un.laid (k:∀ b u,h.get? b=some u→h'.get? b=some u) (hp:h.objs.size ≤ a) (hn:H a=none):Un fs ex H (upd H a o) h h' where
 keep:=fun b u q _ _ _=>k b u q
 slot:=fun b u q _ _ _=>⟨u.slots,k b u q⟩
 free:=fun b u q n _=>by rw [zai (Nat.ne_of_lt (Nat.lt_of_lt_of_le (Heap.lt_size q) hp))];exact n
 there:=fun b u q _=>⟨u,k b u q⟩
 tups:=fun b xs q=>by rw [zai (zau q hn)];exact q
 frzs:=fun b u xs q=>by rw [zai (zau q hn)];exact q
 tbls:=fun b ps q=>⟨#[],by rw [zai (zau q hn),q];simp⟩
theorem Un.write (mu:Mut (H x)) (he:e=x∨H e=some (.own x)) (k:∀ b u,b ≠ e→h.get? b=some u→h'.get? b=some u) (heo:∃ u,h'.get? e=some u):Un fs ex H (upd H x o) h h':=by
 have hx:∀ b,H b=none→b ≠ x:=fun b n z=>by subst z;rw [n] at mu;exact mu
 have hb:∀ b,H b=none→b ≠ e:=fun b n z=>by
  subst z
  rcases he with r | r
  ·exact hx b n r
  ·rw [n] at r;cases r
 have hm:∀ b u,H b=some u→¬ Mut (some u)→b ≠ x:=fun b u q nm z=>by subst z;rw [q] at mu;exact nm mu
 refine ⟨fun b u q n _ _=>k b u (hb b n) q,fun b u q n _ _=>⟨u.slots,k b u (hb b n) q⟩,fun b u q n _=>by rw [zai (hx b n)];exact n,fun b u q _=>?_,
  fun b xs q=>by rw [zai (hm b _ q fun z=>z)];exact q,fun b u xs q=>by rw [zai (hm b _ q fun z=>z)];exact q,fun b ps q=>⟨#[],by rw [zai (hm b _ q fun z=>z),q];simp⟩⟩
 by_cases hbe:b=e
 ·subst hbe;exact heo
 ·exact ⟨u,k b u hbe q⟩
theorem Un.mono (u:Un fs ex H H1 h h1) (hs:∀ b ∈ fs,b ∈ fs') (hx:∀ b ∈ ex,b ∈ ex'):Un fs' ex' H H1 h h1 :=
 ⟨fun b ob q n hb he=>u.keep b ob q n (fun z=>hb (hs b z)) fun z=>he (hx b z),fun _ _ q n _ he=>u.any q n fun z=>he (hx _ z),fun b ob q n he=>u.free b ob q n fun z=>he (hx b z),fun b ob q he=>u.there b ob q fun z=>he (hx b z),u.tups,u.frzs,u.tbls⟩
end
def trk (h:Heap) (H:Hp):List Addr:=(List.range h.objs.size).filter fun a=>(H a).isSome
def hidT (h:Heap) (H:Hp):Heap:=PySem.W.hideAll h (trk h H)
theorem zhh (h:Heap) (H:Hp):(hidT h H).objs.size=h.objs.size:=PySem.W.hideAll_size _ _
theorem ziM {h:Heap} {H:Hp} {b:Addr} {o:Obj} (e:h.get? b=some o) (n:H b=none):(hidT h H).get? b=some o :=
 PySem.W.hideAll_get _ e fun hm=>by
  have q:(H b).isSome=true:=(List.mem_filter.mp hm).2
  rw [n] at q;simp at q
theorem zj1 {h:Heap} {H:Hp} {b:Addr} {o:Obj} (e:(hidT h H).get? b=some o):h.get? b=some o∧H b=none:=by
 have e':h.get? b=some o:=PySem.W.of_hideAll (trk h H) e
 refine ⟨e',?_⟩
 cases q:H b with
 | none=>rfl
 | some x =>
  have hm:b ∈ trk h H:=List.mem_filter.mpr ⟨List.mem_range.mpr (Heap.lt_size e'),by simp [q]⟩
  have z:(hidT h H).get? b=none:=PySem.W.hideAll_none (trk h H) hm
  rw [z] at e;cases e
def zka (g h:Heap) (L:Addr):List (Addr × Obj):=(List.range h.objs.size).filterMap fun a=>if a=L∨(g.get? a).isSome=true then none else (h.get? a).map fun o=>(a,o)
def rest (g h:Heap) (L d:Addr):List (Addr × Obj):=(zka g h L).filter fun p=>decide (p.1 ≠ d)
end L2
namespace L2
open PySem PySem.Spec PyProof.Rows
structure Mod (K:PySem.W.Frag) (mg:Str→Option Value) (base:Heap):Prop where
 kin:K.In base
 glob:base.Ns mainGlobals mg
 blt:∃ mb,base.Ns builtinsNs mb∧∀ x:Str,x ≠ "__name__"→mb x=bootBuiltins x
 nolimit:base.NoLimit
structure Cx where
 prog:Program
 w:World
 K:PySem.W.Frag
 mg:Str→Option Value
 base:Heap
 A:Around
 N:List Str
 s₀:Shared
 H₀:Hp
 env:Env
 outer:List Env
 stack:List Env
 ex:List Addr
 fn:Str→Bool
 calm:Bool
 pn:List (Addr × Obj)
 xe:Value→Shared→Prop
def frs (l:List Env):List Addr:=l.filterMap (·.frame)
abbrev Cx.fs (X:Cx):List Addr:=frs X.outer
def Vis (sc:Scope) (x:Str):Prop:=sc.names.lookup x=some .local∨sc.names.lookup x=some .cell∨sc.names.lookup x=some .free
def Loc (sc:Scope) (x:Str):Prop:=sc.names.lookup x=some .local∨sc.names.lookup x=some .cell
def Look (env:Env) (h:Heap) (m:Str→Option Value) (x:Str) (u:Value):Prop :=
 (env.kindOf x=some .local∧m x=some u)∨((env.kindOf x=some .cell∨env.kindOf x=some .free)∧∃ c,env.cells.lookup x=some c∧h.IsCell c (some u))
structure Cx.Ok (X:Cx):Prop where
 mod:Mod X.K X.mg X.base
 kind:X.env.scope.kind = .function
 glob:X.env.globals=mainGlobals
 blt:X.env.builtins=builtinsNs
 above:X.s₀.heap.objs.size ≤ X.env.locals
 inj:∀ x y c,X.env.cells.lookup x=some c→X.env.cells.lookup y=some c→x=y
 has:∀ x,(X.env.kindOf x=some .cell∨X.env.kindOf x=some .free)→∃ c,X.env.cells.lookup x=some c
 cab:∀ x c,X.fn x=true→X.env.cells.lookup x=some c→X.s₀.heap.objs.size ≤ c
 hd:X.calm=true→X.A.handled=none
 frames:X.A.frames=some X.stack
 stk:X.stack=X.outer∨(X.stack=X.env :: X.outer∧X.env.frame=some X.env.locals)
 exf:∀ b ∈ X.ex,b ≠ X.env.locals∧∀ x c,X.env.cells.lookup x=some c→c ≠ b
 bs:∀ b o,X.base.get? b=some o→X.s₀.heap.get? b=some o∧X.H₀ b=none
 bsz:X.base.objs.size ≤ X.s₀.heap.objs.size
 noex:∀ b o,X.base.get? b=some o→b ∉ X.ex
 exfs:∀ b ∈ X.ex,b ∉ X.fs
 funs:X.s₀.heap.FunFrames X.base X.outer
 frf:∀ b ∈ X.fs,X.H₀ b=none
structure Inv (X:Cx) (pins:List (Addr × Obj)) (σ:List (Option V)) (H:Hp) (s:Shared):Prop where
 ok:X.Ok
 os:s.os=X.s₀.os
 bare:AllBare s.gens
 base:Un X.fs X.ex X.H₀ H X.s₀.heap s.heap
 loc:∃ m,s.heap.Ns X.env.locals m∧∀ (i:Nat) (x:Str) (v:V),X.N[i]? = some x→σ[i]? = some (some v)→Vis X.env.scope x→∃ u,RelV v u∧Look X.env s.heap m x u
 cell:∀ x c,X.env.cells.lookup x=some c→∃ v,s.heap.IsCell c v
 free:H X.env.locals=none
 freeC:∀ x c,X.env.cells.lookup x=some c→H c=none
 pin:∀ p ∈ X.pn ++ pins,s.heap.get? p.1=some p.2∧H p.1=none∧p.1 ≠ X.env.locals∧p.1 ∉ X.fs∧∀ v,p.2.data ≠ .cell v
 hok:HOk X.prog X.w H s.heap
 len:σ.length=X.N.length
section
variable {X:Cx} {pins:List (Addr × Obj)} {σ:List (Option V)} {H H':Hp} {s:Shared} {h':Heap}
theorem Cx.Ok.nofr (ok:X.Ok) {b:Addr} {o:Obj} (e:X.base.get? b=some o):b ∉ X.fs:=fun hb=>by
 have:=(ok.funs.mem hb).1
 rw [e] at this;cases this
theorem Inv.bs (I:Inv X pins σ H s):∀ b o,X.base.get? b=some o→s.heap.get? b=some o∧H b=none:=fun b o e =>
 ⟨I.base.keep b o (I.ok.bs b o e).1 (I.ok.bs b o e).2 (I.ok.nofr e) (I.ok.noex b o e),I.base.free b o (I.ok.bs b o e).1 (I.ok.bs b o e).2 (I.ok.noex b o e)⟩
theorem Inv.bk (I:Inv X pins σ H s):∀ b o,X.base.get? b=some o→s.heap.get? b=some o:=fun b o e=>(I.bs b o e).1
theorem Inv.mod (I:Inv X pins σ H s):Mod X.K X.mg X.base:=I.ok.mod
theorem Inv.kIn (I:Inv X pins σ H s):X.K.In s.heap:=I.ok.mod.kin.keeps I.bk
theorem Inv.nolimit (I:Inv X pins σ H s):s.heap.NoLimit:=I.ok.mod.nolimit.keeps I.bk
theorem Inv.lt (I:Inv X pins σ H s):X.env.locals < s.heap.objs.size:=let ⟨_,hn,_⟩:=I.loc;hn.lt
theorem Inv.sz (I:Inv X pins σ H s):X.s₀.heap.objs.size ≤ s.heap.objs.size:=Nat.le_trans I.ok.above (Nat.le_of_lt I.lt)
theorem Inv.nofs (I:Inv X pins σ H s) {a:Addr} (h:s.heap.objs.size ≤ a):a ∉ X.fs:=fun hb=>by
 obtain ⟨_,o,ho,_⟩:=I.ok.funs.mem hb
 exact absurd (Nat.lt_of_lt_of_le (Heap.lt_size ho) (Nat.le_trans I.sz h)) (Nat.lt_irrefl _)
theorem Inv.cne (I:Inv X pins σ H s):∀ x c,X.env.cells.lookup x=some c→c ≠ X.env.locals:=fun x c e z=>by
 obtain ⟨v,o,ho,hd⟩:=I.cell x c e
 obtain ⟨m,⟨o',es,ep,ho',hd',_⟩,_⟩:=I.loc
 rw [z,ho'] at ho;cases ho;rw [hd'] at hd;cases hd
theorem Inv.funs (I:Inv X pins σ H s):s.heap.FunFrames X.base X.outer:=by
 have all:∀ (l:List Env),(∀ b ∈ frs l,b ∈ X.fs)→X.s₀.heap.FunFrames X.base l→s.heap.FunFrames X.base l:=by
  intro l
  induction l with
  | nil=>intro _ _;trivial
  | cons env r ih =>
   intro hs hl
   obtain ⟨hk,⟨L,o,hf,hn,ho,hd⟩,hr⟩:=hl
   have hL:L ∈ X.fs:=hs L (by unfold frs;rw [List.filterMap_cons,hf];exact List.mem_cons_self)
   obtain ⟨sl,e⟩:=I.base.slot L o ho (I.ok.frf L hL) hL fun z=>I.ok.exfs L z hL
   exact ⟨hk,⟨L,_,hf,hn,e,hd⟩,ih (fun b hb=>hs b (by unfold frs;rw [List.filterMap_cons,hf];exact List.mem_cons_of_mem _ hb)) hr⟩
 exact all X.outer (fun _ hb=>hb) I.ok.funs
theorem Inv.stack (I:Inv X pins σ H s):s.heap.FunFrames X.base X.stack:=by
 rcases I.ok.stk with e | ⟨e,hf⟩
 ·rw [e];exact I.funs
 ·rw [e]
  obtain ⟨m,hn,_⟩:=I.loc
  refine .cons (by rw [I.ok.kind];decide) hf hn ?_ I.funs
  exact Heap.get?_none_of_le (Nat.le_trans I.ok.bsz I.ok.above)
theorem Inv.zeE (I:Inv X pins σ H s):∀ b ∈ frs X.stack,b ∈ X.env.locals :: X.fs:=fun b hb=>by
 rcases I.ok.stk with e | ⟨e,hf⟩
 ·rw [e] at hb;exact List.mem_cons_of_mem _ hb
 ·rw [e] at hb
  unfold frs at hb
  rw [List.filterMap_cons,hf] at hb
  exact hb
theorem Inv.zfB (I:Inv X pins σ H s):∀ b ∈ frs X.stack,H b=none:=fun b hb=>by
 rcases List.mem_cons.mp (I.zeE b hb) with e | hb
 ·rw [e];exact I.free
 ·obtain ⟨_,o,ho,_⟩:=I.ok.funs.mem hb
  exact I.base.free b o ho (I.ok.frf b hb) fun z=>I.ok.exfs b z hb
theorem Inv.step {g':Array GenState} {t':Nat} {d':Drawn} {ch:List Addr} (I:Inv X pins σ H s)
  (hch:∀ b ∈ ch,(b ∈ X.ex∨X.s₀.heap.objs.size ≤ b)∧b ≠ X.env.locals∧(∀ x c,X.env.cells.lookup x=some c→c ≠ b)∧∀ p ∈ X.pn ++ pins,p.1 ≠ b)
  (keep:∀ b o,b ≠ X.env.locals→b ∉ X.fs→b ∉ ch→s.heap.get? b=some o→H b=none→h'.get? b=some o)
  (slot:∀ b o,b ≠ X.env.locals→b ∈ X.fs→b ∉ ch→s.heap.get? b=some o→H b=none→∃ sl,h'.get? b=some { o with slots:=sl }) (free:∀ b o,b ∉ ch→s.heap.get? b=some o→H b=none→H' b=none)
  (there:∀ b o,b ∉ ch→s.heap.get? b=some o→∃ o',h'.get? b=some o')
  (tups:∀ b xs,H b=some (.tup xs)→H' b=some (.tup xs)) (frzs:∀ b o u,H b=some (.frz o u)→H' b=some (.frz o u)) (tbls:∀ b ps,H b=some (.tbl ps)→∃ more,H' b=some (.tbl (ps ++ more)))
  (ns:∀ m,s.heap.Ns X.env.locals m→h'.Ns X.env.locals m) (hok:HOk X.prog X.w H' h') (hg:AllBare g') :
  Inv X pins σ H' { s with heap:=h',gens:=g',drawn:=d',toks:=t' }:=by
 have neL:∀ b o,X.s₀.heap.get? b=some o→b ≠ X.env.locals:=fun b o e=>Nat.ne_of_lt (Nat.lt_of_lt_of_le (Heap.lt_size e) I.ok.above)
 have neC:∀ b o,X.s₀.heap.get? b=some o→b ∉ X.ex→b ∉ ch:=fun b o e hx hb=>by
  rcases (hch b hb).1 with z | z
  ·exact hx z
  ·exact absurd (Nat.lt_of_lt_of_le (Heap.lt_size e) z) (Nat.lt_irrefl _)
 have cellK:∀ x c,X.env.cells.lookup x=some c→∀ v,s.heap.IsCell c v→h'.IsCell c v:=fun x c e v ⟨o,ho,hd⟩=>by
  have nch:c ∉ ch:=fun z=>(hch c z).2.2.1 x c e rfl
  by_cases hc:c ∈ X.fs
  ·obtain ⟨sl,q⟩:=slot c o (I.cne x c e) hc nch ho (I.freeC x c e)
   exact ⟨_,q,hd⟩
  ·exact ⟨o,keep c o (I.cne x c e) hc nch ho (I.freeC x c e),hd⟩
 refine ⟨I.ok,I.os,hg,⟨fun b o e n hb hx=>?_,fun b o e n hb hx=>?_,fun b o e n hx=>?_,fun b o e hx=>?_,fun b xs e=>tups b xs (I.base.tups b xs e),fun b o xs e=>frzs b o xs (I.base.frzs b o xs e),fun b ps e=>?_⟩,?_,fun x c e=>?_,?_,fun x c e=>?_,fun p hp=>?_,hok,I.len⟩
 ·exact keep b o (neL b o e) hb (neC b o e hx) (I.base.keep b o e n hb hx) (I.base.free b o e n hx)
 ·obtain ⟨sl,e1⟩:=I.base.slot b o e n hb hx
  obtain ⟨sl',e2⟩:=slot b _ (neL b o e) hb (neC b o e hx) e1 (I.base.free b o e n hx)
  exact ⟨sl',e2⟩
 ·obtain ⟨o',e1⟩:=I.base.there b o e hx
  exact free b o' (neC b o e hx) e1 (I.base.free b o e n hx)
 ·obtain ⟨o',e1⟩:=I.base.there b o e hx
  exact there b o' (neC b o e hx) e1
 ·obtain ⟨m1,e1⟩:=I.base.tbls b ps e
  obtain ⟨m2,e2⟩:=tbls b _ e1
  exact ⟨m1 ++ m2,by rw [e2,Array.append_assoc]⟩
 ·obtain ⟨m,hn,hl⟩:=I.loc
  refine ⟨m,ns m hn,fun i x v e1 e2 e3=>?_⟩
  obtain ⟨u,r,l⟩:=hl i x v e1 e2 e3
  refine ⟨u,r,?_⟩
  rcases l with l | ⟨k,c,e,z⟩
  ·exact .inl l
  ·exact .inr ⟨k,c,e,cellK x c e _ z⟩
 ·obtain ⟨v,z⟩:=I.cell x c e
  exact ⟨v,cellK x c e v z⟩
 ·obtain ⟨m,⟨o,_,_,ho,_⟩,_⟩:=I.loc
  exact free _ o (fun z=>(hch _ z).2.1 rfl) ho I.free
 ·obtain ⟨v,o,ho,hd⟩:=I.cell x c e
  exact free c o (fun z=>(hch c z).2.2.1 x c e rfl) ho (I.freeC x c e)
 ·obtain ⟨e,n,ne,nf,d⟩:=I.pin p hp
  have nch:p.1 ∉ ch:=fun z=>(hch p.1 z).2.2.2 p hp rfl
  exact ⟨keep p.1 p.2 ne nf nch e n,free p.1 p.2 nch e n,ne,nf,d⟩
theorem Inv.un {t':Nat} (I:Inv X pins σ H s) (u:Un X.fs [] H H' s.heap h') (hok:HOk X.prog X.w H' h'):Inv X pins σ H' { s with heap:=h',toks:=t' }:=by
 obtain ⟨m,⟨o,es,ep,ho,r⟩,_⟩:=id I.loc
 obtain ⟨sl,hL⟩:=u.any ho I.free (by simp)
 exact I.step (g':=s.gens) (d':=s.drawn) (ch:=[]) (fun _ z=>nomatch z) (fun b o _ hb _ e n=>u.keep b o e n hb (by simp)) (fun b o _ hb _ e n=>u.slot b o e n hb (by simp)) (fun b o _ e n=>u.free b o e n (by simp)) (fun b o _ e=>u.there b o e (by simp)) u.tups u.frzs u.tbls (fun m' hm=>by
  obtain ⟨o',es',ep',ho',r'⟩:=hm
  rw [ho] at ho';cases ho'
  exact ⟨_,es',ep',hL,r'⟩) hok I.bare
theorem Inv.call {g':Array GenState} {t':Nat} {d':Drawn} {ch:List Addr} (I:Inv X pins σ H s) (u:Un (frs X.stack) ch H H' s.heap h') (hok:HOk X.prog X.w H' h') (hg:AllBare g')
  (hch:∀ b ∈ ch,(b ∈ X.ex∨X.s₀.heap.objs.size ≤ b)∧b ≠ X.env.locals∧(∀ x c,X.env.cells.lookup x=some c→c ≠ b)∧∀ p ∈ X.pn ++ pins,p.1 ≠ b) :
  Inv X pins σ H' { s with heap:=h',gens:=g',drawn:=d',toks:=t' }:=by
 obtain ⟨m,⟨o,es,ep,ho,r⟩,_⟩:=id I.loc
 obtain ⟨sl,hL⟩:=u.any ho I.free fun z=>(hch _ z).2.1 rfl
 exact I.step (ch:=ch) hch (fun b o hL hb hc e n=>u.keep b o e n (fun z=>(List.mem_cons.mp (I.zeE b z)).elim hL hb) hc) (fun b o _ _ hc e n=>u.any e n hc) (fun b o hc e n=>u.free b o e n hc) (fun b o hc e=>u.there b o e hc) u.tups u.frzs u.tbls (fun m' hm=>by
  obtain ⟨o',es',ep',ho',r'⟩:=hm
  rw [ho] at ho';cases ho'
  exact ⟨_,es',ep',hL,r'⟩) hok hg
theorem Inv.turned {t':Nat} {it:Addr} (I:Inv X pins σ H s) (k:∀ b o,b ≠ it→s.heap.get? b=some o→h'.get? b=some o) (hn:H it=none) (hL:it ≠ X.env.locals)
  (h1:it ∈ X.ex∨X.s₀.heap.objs.size ≤ it) (h2:∀ x c,X.env.cells.lookup x=some c→c ≠ it) (h3:∀ p ∈ X.pn ++ pins,p.1 ≠ it):Inv X pins σ H { s with heap:=h',toks:=t' }:=by
 have nit:∀ b u,H b=some u→b ≠ it:=fun b u e z=>by rw [z,hn] at e;cases e
 refine I.step (g':=s.gens) (d':=s.drawn) (ch:=[it]) (fun b hb=>?_) (fun b o _ _ hc e _=>k b o (fun z=>hc (by simp [z])) e) (fun b o _ _ hc e _=>⟨o.slots,k b o (fun z=>hc (by simp [z])) e⟩) (fun _ _ _ _ n=>n)
  (fun b o hc e=>⟨o,k b o (fun z=>hc (by simp [z])) e⟩) (fun _ _ e=>e) (fun _ _ _ e=>e) (fun b ps e=>⟨#[],by rw [e];simp⟩) (fun m hm=>?_) (fun b u e=>?_) I.bare
 ·have e:b=it:=by simpa using hb
  subst e
  exact ⟨h1,hL,h2,h3⟩
 ·obtain ⟨o,es,ep,ho,r⟩:=hm
  exact ⟨o,es,ep,k _ o (Ne.symm hL) ho,r⟩
 ·refine (I.hok b u e).stay (fun c v hc q=>k c v ?_ q) (fun _ q=>q) fun _ _ q=>q
  rcases hc with z | z
  ·rw [z];exact nit b u e
  ·exact nit c _ z
theorem Inv.tok (I:Inv X pins σ H s) (t:Nat):Inv X pins σ H { s with toks:=t }:=I.un (h':=s.heap) (t':=t) Un.refl I.hok
theorem Inv.kept {t':Nat} (I:Inv X pins σ H s) (k:∀ b u,s.heap.get? b=some u→h'.get? b=some u):Inv X pins σ H { s with heap:=h',toks:=t' }:=I.un (Un.kept k) (I.hok.kept k)
theorem Inv.laid {a:Addr} {o:HO} {t':Nat} (I:Inv X pins σ H s) (k:∀ b u,s.heap.get? b=some u→h'.get? b=some u) (hp:s.heap.objs.size ≤ a) (new:zbS X.prog X.w (upd H a o) h' a o) :
  Inv X pins σ (upd H a o) { s with heap:=h',toks:=t' }:=I.un (Un.laid k hp (I.hok.fresh hp)) (I.hok.laid k hp new)
theorem Inv.write {x e:Addr} {o:HO} {t':Nat} (I:Inv X pins σ H s) (mu:Mut (H x)) (he:e=x∨H e=some (.own x)) (k:∀ b u,b ≠ e→s.heap.get? b=some u→h'.get? b=some u) (heo:∃ u,h'.get? e=some u)
  (new:zbS X.prog X.w (upd H x o) h' x o):Inv X pins σ (upd H x o) { s with heap:=h',toks:=t' }:=I.un (Un.write mu he k heo) (I.hok.write mu he k heo new)
theorem Inv.zfu {pins':List (Addr × Obj)} (I:Inv X pins σ H s) (h:∀ p ∈ pins',s.heap.get? p.1=some p.2∧H p.1=none∧p.1 ≠ X.env.locals∧p.1 ∉ X.fs∧∀ v,p.2.data ≠ .cell v):Inv X pins' σ H s :=
 ⟨I.ok,I.os,I.bare,I.base,I.loc,I.cell,I.free,I.freeC,fun p hp=>(List.mem_append.mp hp).elim (fun z=>I.pin p (List.mem_append_left _ z)) (h p),I.hok,I.len⟩
theorem zf1 {N:List Str} (hN:N.Nodup) {i j:Nat} {x:Str} (a:N[i]? = some x) (b:N[j]? = some x):i=j:=by
 obtain ⟨h1,e1⟩:=List.getElem?_eq_some_iff.mp a
 obtain ⟨h2,e2⟩:=List.getElem?_eq_some_iff.mp b
 exact (List.getElem_inj hN).mp (e1.trans e2.symm)
theorem zg3 {M:Model} {A:Around} {E:Value→Shared→Prop} {i:Nat} {x:Str} {v:V} {u:Value} {Q:Unit→Shared→Prop} (I:Inv X pins σ H s) (hN:X.N.Nodup) (hi:X.N[i]? = some x) (hx:Loc X.env.scope x) (r:RelV v u)
  (h:∀ s',Inv X pins (σ.set i (some v)) H s'→(∃ a,Heap.SameBut a s.heap s'.heap∧(a=X.env.locals∨X.env.cells.lookup x=some a))→Q () s') (hf:X.fn x=true∨X.env.scope.names.lookup x=some .local:=by first | exact .inl rfl | exact .inr rfl | assumption):wpAny M A (storeName X.env x u) Q E s:=by
 obtain ⟨m,hn,hl⟩:=id I.loc
 have hcls:(X.env.scope.kind == .class || (X.env.scope.kind == .module && X.env.locals != X.env.globals))=false:=by rw [I.ok.kind];rfl
 have hiσ:i < σ.length:=by rw [I.len];exact (List.getElem?_eq_some_iff.mp hi).1
 have cne:=I.cne
 have tracked:∀ {a:Addr} {h':Heap},(∃ o,s.heap.get? a=some o∧H a=none)→Heap.SameBut a s.heap h'→HOk X.prog X.w H h':=fun {a h'} ha hs b ob e=>by
  obtain ⟨_,_,hfree⟩:=ha
  refine (I.hok b ob e).stay (fun c w' hc q=>(hs.2 c ?_).trans q) (fun _ q=>q) fun _ _ q=>q
  rintro rfl
  rcases hc with rfl | hc
  ·rw [hfree] at e;cases e
  ·rw [hfree] at hc;cases hc
 rcases hx with hk | hk
 ·refine wpAny_storeName_local hk hn (fun h' hn' hs=>?_) hcls
  obtain ⟨oL,_,_,hoL,_⟩:=id hn
  refine h _ ⟨I.ok,I.os,I.bare,⟨fun b o e n hb hx=>?_,fun b o e n hb hx=>?_,I.base.free,fun b o e hx=>?_,I.base.tups,I.base.frzs,I.base.tbls⟩,⟨_,hn',fun j y v' e1 e2 e3=>?_⟩,fun y c e=>?_,I.free,I.freeC,fun p hp=>?_,tracked ⟨oL,hoL,I.free⟩ hs,by simpa using I.len⟩ ⟨_,hs, .inl rfl⟩
  ·exact (hs.2 b (Nat.ne_of_lt (Nat.lt_of_lt_of_le (Heap.lt_size e) I.ok.above))).trans (I.base.keep b o e n hb hx)
  ·obtain ⟨sl,e1⟩:=I.base.slot b o e n hb hx
   exact ⟨sl,(hs.2 b (Nat.ne_of_lt (Nat.lt_of_lt_of_le (Heap.lt_size e) I.ok.above))).trans e1⟩
  ·obtain ⟨o',e1⟩:=I.base.there b o e hx
   exact ⟨o',(hs.2 b (Nat.ne_of_lt (Nat.lt_of_lt_of_le (Heap.lt_size e) I.ok.above))).trans e1⟩
  ·by_cases hj:j=i
   ·subst hj
    rw [hi] at e1;cases e1
    rw [List.getElem?_set_self hiσ] at e2
    cases e2
    exact ⟨u,r, .inl ⟨hk,by simp⟩⟩
   ·rw [List.getElem?_set_ne (Ne.symm hj)] at e2
    obtain ⟨u',r',q⟩:=hl j y v' e1 e2 e3
    refine ⟨u',r',?_⟩
    rcases q with ⟨k,e⟩ | ⟨k,c,e,z⟩
    ·refine .inl ⟨k,?_⟩
     have:y ≠ x:=fun e=>hj (zf1 hN e1 (e ▸ hi))
     simp [this,e]
    ·exact .inr ⟨k,c,e,z.sameBut hs (cne y c e)⟩
  ·obtain ⟨w',z⟩:=I.cell y c e
   exact ⟨w',z.sameBut hs (cne y c e)⟩
  ·obtain ⟨e,n,ne,nf,d⟩:=I.pin p hp
   exact ⟨(hs.2 p.1 ne).trans e,n,ne,nf,d⟩
 ·have hfn:X.fn x=true:=by
   rcases hf with z | z
   ·exact z
   ·rw [z] at hk;cases hk
  obtain ⟨c,hc⟩:=I.ok.has x (.inl hk)
  obtain ⟨w',z⟩:=I.cell x c hc
  refine wpAny_storeName_cell I.ok.kind hk hc z (fun h' hc' hs=>?_)
  obtain ⟨oc,hoc,hocd⟩:=id z
  refine h { s with heap:=h' } ⟨I.ok,I.os,I.bare,⟨fun b o e n hb hx=>?_,fun b o e n hb hx=>?_,I.base.free,fun b o e hx=>?_,I.base.tups,I.base.frzs,I.base.tbls⟩,⟨m,hn.sameBut hs (Ne.symm (cne x c hc)),fun j y v' e1 e2 e3=>?_⟩,fun y c' e=>?_,I.free,I.freeC,fun p hp=>?_,tracked ⟨oc,hoc,I.freeC x c hc⟩ hs,by simpa using I.len⟩ ⟨c,hs, .inr hc⟩
  ·exact (hs.2 b (Nat.ne_of_lt (Nat.lt_of_lt_of_le (Heap.lt_size e) (I.ok.cab x c hfn hc)))).trans (I.base.keep b o e n hb hx)
  ·obtain ⟨sl,e1⟩:=I.base.slot b o e n hb hx
   exact ⟨sl,(hs.2 b (Nat.ne_of_lt (Nat.lt_of_lt_of_le (Heap.lt_size e) (I.ok.cab x c hfn hc)))).trans e1⟩
  ·obtain ⟨o',e1⟩:=I.base.there b o e hx
   exact ⟨o',(hs.2 b (Nat.ne_of_lt (Nat.lt_of_lt_of_le (Heap.lt_size e) (I.ok.cab x c hfn hc)))).trans e1⟩
  ·by_cases hj:j=i
   ·subst hj
    rw [hi] at e1;cases e1
    rw [List.getElem?_set_self hiσ] at e2
    cases e2
    exact ⟨u,r, .inr ⟨.inl hk,c,hc,hc'⟩⟩
   ·rw [List.getElem?_set_ne (Ne.symm hj)] at e2
    obtain ⟨u',r',q⟩:=hl j y v' e1 e2 e3
    refine ⟨u',r',?_⟩
    rcases q with q | ⟨k,c',e,z'⟩
    ·exact .inl q
    ·refine .inr ⟨k,c',e,z'.sameBut hs ?_⟩
     rintro rfl
     exact hj (zf1 hN e1 (I.ok.inj _ _ _ e hc ▸ hi))
  ·by_cases hcc:c'=c
   ·subst hcc;exact ⟨_,hc'⟩
   ·obtain ⟨w2,z2⟩:=I.cell y c' e
    exact ⟨w2,z2.sameBut hs hcc⟩
  ·obtain ⟨e,n,ne,nf,d⟩:=I.pin p hp
   refine ⟨(hs.2 p.1 ?_).trans e,n,ne,nf,d⟩
   intro q
   rw [q,hoc] at e
   have q':oc=p.2:=Option.some.inj e
   exact d w' (by rw [← q'];exact hocd)
theorem zfQ {M:Model} {A:Around} {E:Value→Shared→Prop} {i:Nat} {x:Str} {v:V} {u:Value} {Q:Unit→Shared→Prop} (I:Inv X pins σ H s) (hN:X.N.Nodup) (hi:X.N[i]? = some x) (hx:Loc X.env.scope x) (r:RelV v u)
  (h:∀ s',Inv X pins (σ.set i (some v)) H s'→Q () s') (hf:X.fn x=true∨X.env.scope.names.lookup x=some .local:=by first | exact .inl rfl | exact .inr rfl | assumption):wpAny M A (storeName X.env x u) Q E s :=
 zg3 I hN hi hx r (fun s' I' _=>h s' I') hf
theorem Inv.zj3 {s':Shared} {ch:List Addr} (I:Inv X pins σ H s) (ho:s'.os=s.os) (u:Un (frs X.stack) ch H H' s.heap s'.heap) (hok:HOk X.prog X.w H' s'.heap) (hg:AllBare s'.gens)
  (hch:∀ b ∈ ch,(b ∈ X.ex∨X.s₀.heap.objs.size ≤ b)∧b ≠ X.env.locals∧(∀ x c,X.env.cells.lookup x=some c→c ≠ b)∧∀ p ∈ X.pn ++ pins,p.1 ≠ b):Inv X pins σ H' s':=by
 obtain ⟨h',g',d',t',o'⟩:=s'
 have e:o'=s.os:=ho
 subst e
 exact I.call (g':=g') (t':=t') (d':=d') u hok hg hch
end
abbrev XK:=Value→Option Addr→Hp→Prop
abbrev St:=List (Option V)
abbrev VK:=V→Hp→Prop
abbrev TE:=St→Hp→VK→Prop
abbrev TT:=St→Hp→(Bool→Hp→Prop)→Prop
abbrev TA:=St→Hp→(List V→Hp→Prop)→Prop
structure Ends where
 nx:St→Hp→Prop
 rt:VK
 bk:St→Hp→Prop:=fun _ _=>False
 ct:St→Hp→Prop:=fun _ _=>False
abbrev TS:=Ends→St→Hp→Prop
def EP (X:Cx) (pins:List (Addr × Obj)) (σ:St) (Q:VK) (u:Value) (s':Shared):Prop:=∃ v H',Inv X pins σ H' s'∧RelV v u∧Q v H'
def TP (X:Cx) (pins:List (Addr × Obj)) (σ:St) (Q:Bool→Hp→Prop) (b:Bool) (s':Shared):Prop:=∃ H',Inv X pins σ H' s'∧Q b H'
def AP (X:Cx) (pins:List (Addr × Obj)) (σ:St) (Q:List V→Hp→Prop) (us:List Value) (s':Shared):Prop:=∃ vs H',Inv X pins σ H' s'∧Vals vs us∧Q vs H'
def SP (X:Cx) (pins:List (Addr × Obj)) (D:Ends) (f:Flow) (s':Shared):Prop :=
 match f with
 | .next=>∃ σ' H',Inv X pins σ' H' s'∧D.nx σ' H'
 | .brk=>∃ σ' H',Inv X pins σ' H' s'∧D.bk σ' H'
 | .cont=>∃ σ' H',Inv X pins σ' H' s'∧D.ct σ' H'
 | .ret u=>∃ v σ' H',Inv X pins σ' H' s'∧RelV v u∧D.rt v H'
def PE (X:Cx) (e:Expr) (t:TE):Prop :=
 ∀ (pins:List (Addr × Obj)) (s:Shared) (σ:St) (H:Hp) (Q:VK),Inv X pins σ H s→t σ H Q→wpAny (model X.prog X.w) X.A (eval e X.env) (EP X pins σ Q) X.xe s
def PT (X:Cx) (e:Expr) (t:TT):Prop :=
 ∀ (pins:List (Addr × Obj)) (s:Shared) (σ:St) (H:Hp) (Q:Bool→Hp→Prop),Inv X pins σ H s→t σ H Q→wpAny (model X.prog X.w) X.A (isTrue e X.env (eval e X.env)) (TP X pins σ Q) X.xe s
def PW (X:Cx) (e:Expr) (t:TT):Prop :=
 ∀ (whole:Sem Value) (pins:List (Addr × Obj)) (s:Shared) (σ:St) (H:Hp) (Q:Bool→Hp→Prop),Inv X pins σ H s→t σ H Q→wpAny (model X.prog X.w) X.A (isTrue e X.env whole) (TP X pins σ Q) X.xe s
theorem PW.pt {X:Cx} {e:Expr} {t:TT} (h:PW X e t):PT X e t:=h _
def PA (X:Cx) (es:List Expr) (t:TA):Prop :=
 ∀ (pos:Pos) (pins:List (Addr × Obj)) (s:Shared) (σ:St) (H:Hp) (Q:List V→Hp→Prop),Inv X pins σ H s→t σ H Q→wpAny (model X.prog X.w) X.A (spliced (backTo pos (starEach es X.env))) (AP X pins σ Q) X.xe s
def PS (X:Cx) (st:Stmt) (t:TS):Prop :=
 ∀ (pins:List (Addr × Obj)) (s:Shared) (σ:St) (H:Hp) (D:Ends),Inv X pins σ H s→t D σ H→wpAny (model X.prog X.w) X.A (exec st X.env) (SP X pins D) X.xe s
def PSs (X:Cx) (st:List Stmt) (t:TS):Prop :=
 ∀ (pins:List (Addr × Obj)) (s:Shared) (σ:St) (H:Hp) (D:Ends),Inv X pins σ H s→t D σ H→wpAny (model X.prog X.w) X.A (execs st X.env) (SP X pins D) X.xe s
theorem thn {α:Type} {t:Sem α} {Q Q':α→Shared→Prop} {M:Model} {A:Around} {E:Value→Shared→Prop} {s:Shared} (h:wpAny M A t Q E s) (hQ:∀ a s,Q a s→Q' a s):wpAny M A t Q' E s:=wpAny_mono h hQ fun _ _ x=>x
end L2
namespace L2
open PySem PySem.Spec PyProof.Rows
section
variable {X:Cx}
def tVar (i:Nat):TE:=fun σ H Q=>∃ v,σ[i]? = some (some v)∧Q v H
def tC (v:V):TE:=fun _ H Q=>Q v H
theorem zhK {i:Nat} {x:Str} {pos:Pos} (hN:X.N[i]? = some x) (hv:Vis X.env.scope x) (hd:(x == ("__debug__" : Str))=false:=by decide) (hcd:(x == ("__classdict__" : Str))=false:=by decide):PE X (.Name x pos) (tVar i):=by
 intro pins s σ H Q I h
 obtain ⟨v,e,h⟩:=h
 obtain ⟨m,hn,hl⟩:=I.loc
 obtain ⟨u,r,l⟩:=hl i x v hN e hv
 have fin:EP X pins σ Q u s:=⟨v,H,I,r,h⟩
 rcases l with ⟨hk,hm⟩ | ⟨hk,c,hc,hcell⟩
 ·exact wpAny_Name (wpAny_loadName_local I.ok.kind hk hn hm fin) hd
 ·rcases hk with hk | hk
  ·exact wpAny_Name (wpAny_loadName_cell I.ok.kind hk hc hcell fin) hd
  ·exact wpAny_Name (wpAny_loadName_free I.ok.kind hk hc hcell fin hcd) hd
theorem zld {i j pos}:PE X (.Constant (.int i) j pos) (tC (.int i)):=fun _ _ _ H _ I h=>wpAny_Constant_int ⟨.int i,H,I.tok _,⟨_,rfl⟩,h⟩
theorem zmG {b j pos}:PE X (.Constant (.bool b) j pos) (tC (.bl b)):=fun _ _ _ H _ I h=>Constant_bool ⟨.bl b,H,I,rfl,h⟩
def Gl (X:Cx) (x:Str):Prop:=X.env.kindOf x=some .globalImplicit
theorem zg8 {E:Value→Shared→Prop} {pins:List (Addr × Obj)} {s:Shared} {σ:St} {H:Hp} {x:Str} {u:Value} {pos:Pos} {Q:Value→Shared→Prop} (I:Inv X pins σ H s) (hg:Gl X x) (hm:X.mg x=some u) (h:Q u s)
  (hd:(x == ("__debug__" : Str))=false:=by decide):wpAny (model X.prog X.w) X.A (eval (.Name x pos) X.env) Q E s :=
 Calls.Name_function_global I.ok.kind hg (Calls.loadGlobal_global (by rw [I.ok.glob];exact I.mod.glob.keeps I.bk) hm h) hd
theorem zdT {E:Value→Shared→Prop} {pins:List (Addr × Obj)} {s:Shared} {σ:St} {H:Hp} {x:Str} {u:Value} {pos:Pos} {Q:Value→Shared→Prop} (I:Inv X pins σ H s) (hg:Gl X x) (hm:X.mg x=none) (hv:bootBuiltins x=some u) (h:Q u s)
  (hn:x ≠ "__name__":=by decide) (hd:(x == ("__debug__" : Str))=false:=by decide):wpAny (model X.prog X.w) X.A (eval (.Name x pos) X.env) Q E s:=by
 obtain ⟨mb,h1,h2⟩:=I.mod.blt
 exact Calls.Name_function_global I.ok.kind hg (Calls.loadGlobal_builtin (by rw [I.ok.glob];exact I.mod.glob.keeps I.bk) hm (by rw [I.ok.blt];exact h1.keeps I.bk) ((h2 x hn).trans hv) h) hd
theorem zji {x:Str} {v:V} {u:Value} {pos:Pos} (hg:Gl X x) (hm:X.mg x=none) (hv:bootBuiltins x=some u) (r:RelV v u) (hn:x ≠ "__name__":=by decide) (hd:(x == ("__debug__" : Str))=false:=by decide):PE X (.Name x pos) (tC v) :=
 fun _ _ _ H _ I h=>zdT I hg hm hv ⟨v,H,I,r,h⟩ hn hd
variable {a b:Expr} {ta tb:TE} {pos:Pos}
def tB (t:TE):TT:=fun σ H Q=>t σ H fun x H1=>∃ c,x = .bl c∧Q c H1
theorem zlX {e:Expr} {t:TE} (h:PE X e t) (he:∀ whole,isTrue e X.env whole=(do let v ← whole;standAt e.pos;holding [v] (truthy v)):=by intro _;rfl):PT X e (tB t):=by
 intro pins s σ H Q I hw
 refine isTrue_plain (thn (h pins s σ H _ I hw) fun v s1 ⟨x,H1,I1,r1,q1⟩=>?_) (he _)
 obtain ⟨d,rfl,q⟩:=q1
 cases r1
 exact wpAny_truthy_bool ⟨H1,I1,q⟩
variable {tA tB':TT} {rest:List Expr}
def tAnd (t u:TT):TT:=fun σ H Q=>t σ H fun c H1=>if c=true then u σ H1 Q else Q false H1
def tOr (t u:TT):TT:=fun σ H Q=>t σ H fun c H1=>if c=true then Q true H1 else u σ H1 Q
def tNot (t:TT):TT:=fun σ H Q=>t σ H fun c H1=>Q (!c) H1
theorem pw_and1 (ha:PT X a tA):PW X (.BoolOp .And [a] pos) tA:=by
 intro wh pins s σ H Q I h
 refine isTrue_and (thn (ha pins s σ H Q I h) fun c s1 e=>?_)
 cases c with
 | true=>exact isTrue_and_nil e
 | false=>exact e
theorem pw_or1 (ha:PT X a tA):PW X (.BoolOp .Or [a] pos) tA:=by
 intro wh pins s σ H Q I h
 refine isTrue_or (thn (ha pins s σ H Q I h) fun c s1 e=>?_)
 cases c with
 | false=>exact isTrue_or_nil e
 | true=>exact e
theorem pw_and (ha:PT X a tA) (hb:PW X (.BoolOp .And (b :: rest) pos) tB'):PW X (.BoolOp .And (a :: b :: rest) pos) (tAnd tA tB'):=by
 intro wh pins s σ H Q I h
 refine isTrue_and (thn (ha pins s σ H _ I h) fun c s1 ⟨H1,I1,q1⟩=>?_)
 cases c with
 | true=>exact hb wh pins s1 σ H1 Q I1 q1
 | false=>exact ⟨H1,I1,q1⟩
theorem pw_or (ha:PT X a tA) (hb:PW X (.BoolOp .Or (b :: rest) pos) tB'):PW X (.BoolOp .Or (a :: b :: rest) pos) (tOr tA tB'):=by
 intro wh pins s σ H Q I h
 refine isTrue_or (thn (ha pins s σ H _ I h) fun c s1 ⟨H1,I1,q1⟩=>?_)
 cases c with
 | true=>exact ⟨H1,I1,q1⟩
 | false=>exact hb wh pins s1 σ H1 Q I1 q1
theorem zlv (ha:PT X a tA):PT X (.UnaryOp .Not a pos) (tNot tA):=by
 intro pins s σ H Q I h
 exact isTrue_not (ha pins s σ H (fun c H1=>Q (!c) H1) I h)
end
end L2
namespace L2
open PySem PySem.Spec PyProof.Rows
def SqL (K:PySem.W.Frag) (H:Hp) (a:Addr) (xs:List V):Prop :=
 Rd H a (.lst xs) ∨
  ∃ (o:Obj) (its:Array Value) (n:Nat),K.lookup a=some o∧o.cls = .type "list"∧o.dict=none∧o.data = .seq its n∧its.size ≤ sizeLine∧Vals xs its.toList
def SqT (K:PySem.W.Frag) (H:Hp) (a:Addr) (xs:List V):Prop :=
 Rd H a (.tup xs) ∨
  ∃ (o:Obj) (its:Array Value) (n:Nat),K.lookup a=some o∧o.cls = .type "tuple"∧o.data = .seq its n∧its.size ≤ sizeLine∧Vals xs its.toList
def absV:Value→Option V
 | .none=>some .non
 | .bool b=>some (.bl b)
 | .int i _=>some (.int i)
 | .str x _=>some (.str x)
 | .bytes b _=>some (.byt b)
 | .float b _=>some (.flt b)
 | .ref a=>some (.ref a)
 | .type n=>some (.ty n)
 | _=>none
theorem RelV.abs {x:V} {u:Value} (r:RelV x u):absV u=some x:=by
 cases x with
 | non=>cases r;rfl
 | bl _=>cases r;rfl
 | int _=>obtain ⟨t,rfl⟩:=r;rfl
 | str _=>obtain ⟨t,rfl⟩:=r;rfl
 | byt _=>obtain ⟨t,rfl⟩:=r;rfl
 | flt _=>obtain ⟨t,rfl⟩:=r;rfl
 | ref _=>cases r;rfl
 | ty _=>cases r;rfl
theorem RelV.inj {x y:V} {u:Value} (r:RelV x u) (q:RelV y u):x=y:=Option.some.inj (r.abs.symm.trans q.abs)
theorem Vals.inj:∀ {xs ys:List V} {us:List Value},Vals xs us→Vals ys us→xs=ys
 | _,_,_, .nil, .nil=>rfl
 | _,_,_, .cons r t, .cons r' t'=>by rw [r.inj r',Vals.inj t t']
section
variable {X:Cx} {pins:List (Addr × Obj)} {σ:St} {H:Hp} {s:Shared} {a:Addr} {xs ys:List V}
theorem SqL.of {K:PySem.W.Frag} (h:H a=some (.lst xs)):SqL K H a xs := .inl (.inl h)
theorem SqT.of {K:PySem.W.Frag} (h:H a=some (.tup xs)):SqT K H a xs := .inl (.inl h)
theorem Inv.list (I:Inv X pins σ H s) (h:SqL X.K H a xs):∃ its:List Value,Vals xs its∧PlainL s.heap a its.toArray∧xs.length ≤ sizeLine:=by
 rcases h with h | ⟨o,its,n,hk,hc,hd,hs,hz,r⟩
 ·obtain ⟨z,its,n,r,e⟩:=h.ok I.hok
  exact ⟨its,r,⟨_,n,e,rfl,rfl,rfl⟩,z⟩
 ·refine ⟨its.toList,r,⟨o,n,I.kIn a o hk,hc,hd,by simpa using hs⟩,?_⟩
  have e:=r.length
  simp only [Array.length_toList] at e
  omega
theorem Inv.tuple (I:Inv X pins σ H s) (h:SqT X.K H a xs):∃ its:List Value,Vals xs its∧IsTup s.heap a its.toArray∧xs.length ≤ sizeLine:=by
 rcases h with h | ⟨o,its,n,hk,hc,hs,hz,r⟩
 ·obtain ⟨z,its,r,p⟩:=h.ok I.hok
  exact ⟨its,r,p,z⟩
 ·refine ⟨its.toList,r,⟨o,I.kIn a o hk,hc,n,by simpa using hs⟩,?_⟩
  have e:=r.length
  simp only [Array.length_toList] at e
  omega
theorem Inv.zdl (I:Inv X pins σ H s) (h:SqL X.K H a xs) (h':SqL X.K H a ys):xs=ys:=by
 obtain ⟨its,r,⟨o,n,e,_,_,d⟩,_⟩:=I.list h
 obtain ⟨its',r',⟨o',n',e',_,_,d'⟩,_⟩:=I.list h'
 rw [e] at e';cases e'
 rw [d] at d'
 injection d' with d1 _
 have:its=its':=by simpa using congrArg Array.toList d1
 subst this
 exact r.inj r'
theorem Inv.zhO (I:Inv X pins σ H s) (h:SqT X.K H a xs) (h':SqT X.K H a ys):xs=ys:=by
 obtain ⟨its,r,⟨o,e,_,n,d⟩,_⟩:=I.tuple h
 obtain ⟨its',r',⟨o',e',_,n',d'⟩,_⟩:=I.tuple h'
 rw [e] at e';cases e'
 rw [d] at d'
 injection d' with d1 _
 have:its=its':=by simpa using congrArg Array.toList d1
 subst this
 exact r.inj r'
end
abbrev Cx.wish (X:Cx) (E:Value→Shared→Prop):Cx:={ X with xe:=E }
abbrev Cx.nox (X:Cx):Cx:=X.wish fun _ _=>False
theorem Cx.Ok.wish {X:Cx} (ok:X.Ok) (E:Value→Shared→Prop):(X.wish E).Ok :=
 ⟨ok.mod,ok.kind,ok.glob,ok.blt,ok.above,ok.inj,ok.has,ok.cab,ok.hd,ok.frames,ok.stk,ok.exf,ok.bs,ok.bsz,ok.noex,ok.exfs,ok.funs,ok.frf⟩
theorem Cx.Ok.zbV {X:Cx} {E:Value→Shared→Prop} (ok:(X.wish E).Ok):X.Ok :=
 ⟨ok.mod,ok.kind,ok.glob,ok.blt,ok.above,ok.inj,ok.has,ok.cab,ok.hd,ok.frames,ok.stk,ok.exf,ok.bs,ok.bsz,ok.noex,ok.exfs,ok.funs,ok.frf⟩
section
variable {X:Cx} {pins:List (Addr × Obj)} {σ:St} {H:Hp} {s:Shared} {E:Value→Shared→Prop}
theorem Inv.wish (I:Inv X pins σ H s) (E:Value→Shared→Prop):Inv (X.wish E) pins σ H s:=⟨I.ok.wish E,I.os,I.bare,I.base,I.loc,I.cell,I.free,I.freeC,I.pin,I.hok,I.len⟩
theorem Inv.zbV (I:Inv (X.wish E) pins σ H s):Inv X pins σ H s:=⟨I.ok.zbV,I.os,I.bare,I.base,I.loc,I.cell,I.free,I.freeC,I.pin,I.hok,I.len⟩
theorem SP.zbV {D:Ends} {f:Flow} {s':Shared} (h:SP (X.wish E) pins D f s'):SP X pins D f s':=by
 cases f with
 | next=>obtain ⟨σ',H',I,q⟩:=h;exact ⟨σ',H',I.zbV,q⟩
 | brk=>obtain ⟨σ',H',I,q⟩:=h;exact ⟨σ',H',I.zbV,q⟩
 | cont=>obtain ⟨σ',H',I,q⟩:=h;exact ⟨σ',H',I.zbV,q⟩
 | ret u=>obtain ⟨v,σ',H',I,r,q⟩:=h;exact ⟨v,σ',H',I.zbV,r,q⟩
theorem PE.nox {e:Expr} {t:TE} (h:PE X.nox e t):PE X e t:=fun pins s σ H Q I hw =>
 wpAny_mono (h pins s σ H Q (I.wish _) hw) (fun _ _ ⟨v,H',I',r,q⟩=>⟨v,H',I'.zbV,r,q⟩) fun _ _ z=>False.elim z
theorem PT.nox {e:Expr} {t:TT} (h:PT X.nox e t):PT X e t:=fun pins s σ H Q I hw =>
 wpAny_mono (h pins s σ H Q (I.wish _) hw) (fun _ _ ⟨H',I',q⟩=>⟨H',I'.zbV,q⟩) fun _ _ z=>False.elim z
theorem PSs.nox {st:List Stmt} {t:TS} (h:PSs X.nox st t):PSs X st t:=fun pins s σ H D I hw =>
 wpAny_mono (h pins s σ H D (I.wish _) hw) (fun _ _ q=>q.zbV) fun _ _ z=>False.elim z
end
section
variable {X:Cx} {st:Stmt} {rest:List Stmt} {t u:TS} {e:Expr} {te:TE} {pos:Pos}
def zmt:TS:=fun D σ H=>D.nx σ H
def tSeq (t u:TS):TS:=fun D σ H=>t { D with nx:=u D } σ H
theorem zjN:PSs X [] zmt:=fun _ _ σ H _ I h=>wpAny_execs_nil ⟨σ,H,I,h⟩
theorem zia (h1:PS X st t) (h2:PSs X rest u):PSs X (st :: rest) (tSeq t u):=by
 intro pins s σ H D I h
 refine wpAny_execs_cons (thn (h1 pins s σ H { D with nx:=u D } I h) fun f s1 q=>?_)
 cases f with
 | next =>
  obtain ⟨σ',H',I',q⟩:=q
  exact h2 pins s1 σ' H' D I' q
 | ret v=>exact q
 | brk=>exact q
 | cont=>exact q
theorem zjK (h1:PS X st t):PSs X [st] t:=by
 intro pins s σ H D I h
 refine wpAny_execs_cons (thn (h1 pins s σ H D I h) fun f s1 q=>?_)
 cases f with
 | next=>exact wpAny_execs_nil q
 | ret v=>exact q
 | brk=>exact q
 | cont=>exact q
theorem Inv.quiet {pins:List (Addr × Obj)} {σ:St} {H:Hp} {s:Shared} (I:Inv X pins σ H s):interactive X.env=false:=by simp [interactive,I.ok.kind]
def zmi (te:TE):TS:=fun D σ H=>te σ H fun _ H1=>D.nx σ H1
theorem zj7 (he:PE X e te) (hs:swapsWith e none pos.line X.env=pure false:=by rfl):PS X (.Expr e pos) (zmi te):=by
 intro pins s σ H D I h
 exact wpAny_Expr_any (thn (he pins s σ H _ I h) fun v s1 ⟨x,H1,I1,r1,q1⟩=>⟨σ,H1,I1,q1⟩) I.quiet hs
def tRet (te:TE):TS:=fun D σ H=>te σ H D.rt
theorem zly (he:PE X e te):PS X (.Return (some e) pos) (tRet te):=by
 intro pins s σ H D I h
 exact wpAny_Return_some (thn (he pins s σ H _ I h) fun v s1 ⟨x,H1,I1,r1,q1⟩=>⟨x,σ,H1,I1,r1,q1⟩)
def tIfS (c:TT) (t u:TS):TS:=fun D σ H=>c σ H fun b H1=>if b=true then t D σ H1 else u D σ H1
theorem zl8 {c:Expr} {a b:List Stmt} {tc:TT} (hc:PT X c tc) (ha:PSs X a t) (hb:PSs X b u):PS X (.If c a b pos) (tIfS tc t u):=by
 intro pins s σ H D I h
 refine wpAny_If (thn (hc pins s σ H _ I h) fun d s1 ⟨H1,I1,q1⟩=>?_)
 cases d with
 | true=>exact ha pins s1 σ H1 D I1 q1
 | false=>exact hb pins s1 σ H1 D I1 q1
end
abbrev TG:=V→St→Hp→(St→Hp→Prop)→Prop
abbrev TGs:=List V→St→Hp→(St→Hp→Prop)→Prop
def PG (X:Cx) (target:Expr) (t:TG):Prop :=
 ∀ (pins:List (Addr × Obj)) (s:Shared) (σ:St) (H:Hp) (v:V) (u:Value) (Q:St→Hp→Prop),Inv X pins σ H s→RelV v u→t v σ H Q →
  wpAny (model X.prog X.w) X.A (assign target X.env u) (fun _ s'=>∃ σ' H',Inv X pins σ' H' s'∧Q σ' H') X.xe s
def PGs (X:Cx) (ts:List Expr) (t:TGs):Prop :=
 ∀ (pins:List (Addr × Obj)) (s:Shared) (σ:St) (H:Hp) (vs:List V) (us:List Value) (Q:St→Hp→Prop),Inv X pins σ H s→Vals vs us→t vs σ H Q →
  wpAny (model X.prog X.w) X.A (assignInOrder ((assignEach ts X.env).map (·.2)) us) (fun _ s'=>∃ σ' H',Inv X pins σ' H' s'∧Q σ' H') X.xe s
abbrev TSet:=V→V→V→Hp→(Hp→Prop)→Prop
def PSet (X:Cx) (t:TSet):Prop :=
 ∀ (pins:List (Addr × Obj)) (s:Shared) (σ:St) (H:Hp) (o i v:V) (ov iv u:Value) (Q:Hp→Prop),Inv X pins σ H s→RelV o ov→RelV i iv→RelV v u→t o i v H Q →
  wpAny (model X.prog X.w) X.A (setItem ov iv u) (fun _ s'=>∃ H',Inv X pins σ H' s'∧Q H') X.xe s
section
variable {X:Cx} {pos:Pos}
def zli (i:Nat):TG:=fun v σ H Q=>Q (σ.set i (some v)) H
theorem zjv {i:Nat} {x:Str} (hN:X.N.Nodup) (hi:X.N[i]? = some x) (hx:Loc X.env.scope x) (hf:X.fn x=true∨X.env.scope.names.lookup x=some .local:=by first | exact .inl rfl | exact .inr rfl | assumption):PG X (.Name x pos) (zli i):=by
 intro pins s σ H v u Q I r h
 exact wpAny_assign_Name (zfQ I hN hi hx r (fun s' I'=>⟨_,H,I',h⟩) hf)
def gNil:TGs:=fun vs σ H Q=>vs=[]∧Q σ H
def zmJ (t:TG) (u:TGs):TGs:=fun vs σ H Q=>∃ v r,vs=v :: r∧t v σ H fun σ' H'=>u r σ' H' Q
theorem zj2:PGs X [] gNil:=by
 intro pins s σ H vs us Q I r h
 obtain ⟨e,h⟩:=h
 subst e
 cases r
 exact assignInOrder_nil ⟨σ,H,I,h⟩
theorem ziQ {e:Expr} {es:List Expr} {t:TG} {u:TGs} (h1:PG X e t) (h2:PGs X es u)
  (hs:(assignEach (e :: es) X.env).map (·.2)=assign e X.env :: (assignEach es X.env).map (·.2):=by rfl):PGs X (e :: es) (zmJ t u):=by
 intro pins s σ H vs us Q I r h
 obtain ⟨v,vr,e1,h⟩:=h
 subst e1
 cases r with
 | cons r rr =>
  rw [hs]
  refine assignInOrder_cons (thn (h1 pins s σ H _ _ _ I r h) fun _ s1 ⟨σ1,H1,I1,q1⟩=>?_)
  exact h2 pins s1 σ1 H1 _ _ Q I1 rr q1
def gTup (K:PySem.W.Frag) (n:Nat) (t:TGs):TG:=fun v σ H Q=>∃ a xs,v = .ref a∧SqT K H a xs∧xs.length=n∧t xs σ H Q
theorem zkV {es:List Expr} {k:Nat} {t:TGs} {n:Nat} (hc:X.calm=true) (h:PGs X es t)
  (hn:(assignEach es X.env).length=n:=by rfl) (hst:(assignEach es X.env).findIdx? (·.1)=none:=by rfl):PG X (.Tuple es k pos) (gTup X.K n t):=by
 intro pins s σ H v u Q I r hw
 obtain ⟨a,xs,e1,hq,hl,hw⟩:=hw
 subst e1
 cases r
 obtain ⟨its,rv,ht,hz⟩:=I.tuple hq
 refine assign_Tuple_tuple (I.ok.hd hc) ht (by simp [hn,← hl,rv.length]) hst fun h' hx=>?_
 have I1:Inv X pins σ H { s with heap:=h' }:=I.kept (t':=s.toks) fun b o e=>hx b o (Nat.ne_of_lt (Heap.lt_size e)) e
 exact h pins _ σ H xs _ Q I1 (by simpa using rv) hw
def gSub (to ti:TE) (t:TSet):TG:=fun v σ H Q=>to σ H fun o H1=>ti σ H1 fun i H2=>t o i v H2 fun H3=>Q σ H3
theorem zlR {o i:Expr} {to ti:TE} {t:TSet} (ho:PE X o to) (hi:PE X i ti) (hs:PSet X t)
  (ha:∀ v,assign (.Subscript o i pos) X.env v=(do
   let ov ← holding [v] (eval o X.env)
   let iv ← holding [v,ov] (eval i X.env)
   standAt pos
   holding [v,ov,iv] (setItem ov iv v)
   release [v,ov,iv] []):=by intro _;rfl):PG X (.Subscript o i pos) (gSub to ti t):=by
 intro pins s σ H v u Q I r h
 rw [ha]
 refine wpAny_bind (wpAny_holding (thn (ho pins s σ H _ I h) fun ov s1 ⟨x,H1,I1,r1,q1⟩=>?_))
 refine wpAny_bind (wpAny_holding (thn (hi pins s1 σ H1 _ I1 q1) fun iv s2 ⟨y,H2,I2,r2,q2⟩=>?_))
 refine wpAny_bind (wpAny_standAt (wpAny_bind (wpAny_holding (thn (hs pins s2 σ H2 x y v ov iv u _ I2 r1 r2 r q2) fun _ s3 ⟨H3,I3,q3⟩=>?_))))
 exact wpAny_release ⟨σ,H3,I3,q3⟩
def tAsg (te:TE) (g:TG):TS:=fun D σ H=>te σ H fun x H1=>g x σ H1 D.nx
theorem zlV {tg e:Expr} {te:TE} {g:TG} (he:PE X e te) (hg:PG X tg g) (hs:swapsWithSole [tg] e pos.line X.env=pure false:=by rfl) (hw:swappedStores [tg] e X.env=pure none:=by rfl)
  (h1:(assignEach [tg] X.env).map (·.2)=[assign tg X.env]:=by rfl):PS X (.Assign [tg] e pos) (tAsg te g):=by
 intro pins s σ H D I h
 refine wpAny_Assign_stores (thn (he pins s σ H _ I h) fun v s1 ⟨x,H1,I1,r1,q1⟩=>?_) hs hw
 rw [h1]
 exact thn (hg pins s1 σ H1 x v _ I1 r1 q1) fun _ s2 q=>q
theorem zlU {i:Nat} {x:Str} {e:Expr} {te:TE} {pos':Pos} (hN:X.N.Nodup) (hi:X.N[i]? = some x) (hx:Loc X.env.scope x) (he:PE X e te) (hs:swapsWith e (some (.Name x pos')) pos.line X.env=pure false:=by rfl) (hf:X.fn x=true∨X.env.scope.names.lookup x=some .local:=by first | exact .inl rfl | exact .inr rfl | assumption) :
  PS X (.Assign [.Name x pos'] e pos) (tAsg te (zli i)):=by
 intro pins s σ H D I h
 refine wpAny_Assign_Name (thn (he pins s σ H _ I h) fun v s1 ⟨y,H1,I1,r1,q1⟩=>?_) hs
 exact zfQ I1 hN hi hx r1 (fun s2 I2=>⟨_,H1,I2,q1⟩) hf
end
section
variable {X:Cx} {pos:Pos}
def zi7 (c:TT) (tb:TS):TS:=fun D σ H=>∃ W:Nat→St→Hp→Prop,(∃ m,W m σ H)∧∀ m σ H,W m σ H →
 c σ H fun b H1=>if b=true then ∃ N:St→Hp→Prop,(∀ σ' H',N σ' H'→∃ m',m' < m∧W m' σ' H')∧tb { D with nx:=N,ct:=N,bk:=D.nx } σ H1 else D.nx σ H1
theorem zit {c:Expr} {body:List Stmt} {tc:TT} {tb:TS} (hp:PassesOwn (model X.prog X.w) X.A X.env X.xe) (hc:PT X c tc) (hb:PSs X body tb):PS X (.While c body [] pos) (zi7 tc tb):=by
 intro pins s σ H D I h
 obtain ⟨W,⟨m0,w0⟩,turn⟩:=h
 refine wpAny_While (codeAny_whileLoop (fun n s'=>∃ σ' H',Inv X pins σ' H' s'∧W n σ' H') ?_ m0 ⟨σ,H,I,w0⟩)
 rintro n s1 ⟨σ1,H1,I1,w1⟩
 refine wpAny_passesOwn hp (thn (hc pins s1 σ1 H1 _ I1 (turn n σ1 H1 w1)) fun b s2 ⟨H2,I2,q2⟩=>?_)
 cases b with
 | true =>
  obtain ⟨N,hN,q2⟩:=q2
  rw [if_pos rfl]
  refine wpAny_passesOwn hp (thn (hb pins s2 σ1 H2 _ I2 q2) fun f s3 q3=>?_)
  cases f with
  | next =>
   obtain ⟨σ3,H3,I3,n3⟩:=q3
   obtain ⟨m',hm,w3⟩:=hN σ3 H3 n3
   exact ⟨m',hm,σ3,H3,I3,w3⟩
  | cont =>
   obtain ⟨σ3,H3,I3,n3⟩:=q3
   obtain ⟨m',hm,w3⟩:=hN σ3 H3 n3
   exact ⟨m',hm,σ3,H3,I3,w3⟩
  | brk=>exact q3
  | ret v=>exact q3
 | false =>
  rw [if_neg Bool.false_ne_true]
  exact wpAny_execs_nil ⟨σ1,H2,I2,q2⟩
end
structure It where
 go:Nat→Hp→Prop
 yld:Nat→Hp→V→Hp→Prop
 stop:Nat→Hp→Prop
def FpOk (X:Cx) (pins:List (Addr × Obj)) (H:Hp) (b:Addr):Prop :=
 H b=none∧b ≠ X.env.locals∧b ∉ X.fs∧(b ∈ X.ex∨X.s₀.heap.objs.size ≤ b)∧(∀ x c,X.env.cells.lookup x=some c→c ≠ b)∧∀ p ∈ X.pn ++ pins,p.1 ≠ b
theorem Inv.fpOk {X:Cx} {pins:List (Addr × Obj)} {σ:St} {H H':Hp} {s:Shared} {b:Addr} (I:Inv X pins σ H s) (hb:s.heap.objs.size ≤ b) (hn:H' b=none):FpOk X pins H' b:=by
 refine ⟨hn,Nat.ne_of_gt (Nat.lt_of_lt_of_le I.lt hb),I.nofs hb, .inr (Nat.le_trans I.sz hb),fun x c e z=>?_,fun p hp z=>?_⟩
 ·obtain ⟨v,q⟩:=I.cell x c e
  exact absurd (Nat.lt_of_lt_of_le q.lt (by rw [z];exact hb)) (Nat.lt_irrefl _)
 ·exact absurd (Nat.lt_of_lt_of_le (Heap.lt_size (I.pin p hp).1) (by rw [z];exact hb)) (Nat.lt_irrefl _)
structure Turn (P:Program) (w:World) (K:PySem.W.Frag) (tg:Expr) (J:It) (fp:List Addr) (it:Addr) (tn:Nat→Heap→Prop):Prop where
 mem:it ∈ fp
 obj:∀ i h,tn i h→∀ b ∈ fp,∃ o,h.get? b=some o∧∀ v,o.data ≠ .cell v
 keep:∀ i h h',tn i h→(∀ b ∈ fp,∀ o,h.get? b=some o→h'.get? b=some o)→tn i h'
 item:∀ (X:Cx),X.prog=P→X.w=w→X.K=K→X.calm=true→∀ (i:Nat) (pins:List (Addr × Obj)) (s:Shared) (σ:St) (H:Hp) (E:Value→Shared→Prop),Inv X pins σ H s→(∀ b ∈ fp,FpOk X pins H b)→tn i s.heap→J.go i H →
  wpAny (model P w) X.A (pyNext (.ref it)) (fun r s1=>∃ u,r=some u ∧
   wpAny (model P w) X.A (letOwnedTupleGo tg (.ref it) u) (fun _ s2=>∃ x H',Inv X pins σ H' s2∧RelV x u∧J.yld i H x H'∧tn (i + 1) s2.heap∧∀ b ∈ fp,H' b=none) E s1) E s
 done:∀ (X:Cx),X.prog=P→X.w=w→X.K=K→X.calm=true→∀ (i:Nat) (pins:List (Addr × Obj)) (s:Shared) (σ:St) (H:Hp) (E:Value→Shared→Prop),Inv X pins σ H s→(∀ b ∈ fp,FpOk X pins H b)→tn i s.heap→J.stop i H →
  wpAny (model P w) X.A (pyNext (.ref it)) (fun r s1=>r=none∧Inv X pins σ H s1) E s
 self:∀ (A:Around) (i:Nat) (s:Shared) (Q:Value→Shared→Prop) (E:Value→Shared→Prop),tn i s.heap→Q (.ref it) s→wpAny (model P w) A (pyIter (.ref it)) Q E s
abbrev TI:=St→Hp→(It→Hp→Prop)→Prop
def PIE (X:Cx) (pins:List (Addr × Obj)) (σ:St) (tg:Expr) (R:It→Hp→Prop) (itv:Value) (s2:Shared):Prop :=
 ∃ (it:Addr) (fp:List Addr) (tn:Nat→Heap→Prop) (J:It) (H':Hp),itv = .ref it∧Inv X pins σ H' s2∧Turn X.prog X.w X.K tg J fp it tn∧tn 0 s2.heap∧(∀ b ∈ fp,FpOk X pins H' b)∧R J H'
def PI (X:Cx) (tg iter:Expr) (wi:TI):Prop :=
 ∀ (pins:List (Addr × Obj)) (s:Shared) (σ:St) (H:Hp) (R:It→Hp→Prop),Inv X pins σ H s→wi σ H R →
  wpAny (model X.prog X.w) X.A (eval iter X.env) (fun v s1=>wpAny (model X.prog X.w) X.A (pyIter v) (PIE X pins σ tg R) X.xe s1) X.xe s
theorem zhR {M:Model} {A:Around} {E:Value→Shared→Prop} {s:Shared} {tg:Expr} {it:Addr} {u:Value} {o:Obj} {n:String} {vs:Array Value} {Q:Unit→Shared→Prop} (ho:s.heap.get? it=some o) (hc:o.cls = .type n) (hd:o.data = .fields vs)
  (hn : ["enumerate", "zip", "dict_itemiterator", "dict_reverseitemiterator", "odict_iterator", "itertools.zip_longest", "itertools.pairwise"].contains n=false) (hQ:Q () s):wpAny M A (letOwnedTupleGo tg (.ref it) u) Q E s:=by
 unfold letOwnedTupleGo
 cases tg <;> first
  | exact wpAny_pure hQ
  | (cases u <;> first
    | exact wpAny_pure hQ
    | (refine wpAny_bind (wpAny_load ho ?_)
       rw [hc,hd]
       show wpAny M A (if (["enumerate", "zip", "dict_itemiterator", "dict_reverseitemiterator", "odict_iterator", "itertools.zip_longest", "itertools.pairwise"].contains n && vs[0]? == some (rawInt _))=true then _ else _) Q E s
       rw [if_neg (by intro h;rw [hn,Bool.false_and] at h;cases h)]
       exact wpAny_pure hQ))
def Itl (K:PySem.W.Frag) (a:Addr):It :=
 ⟨fun i H=>∃ xs x,SqL K H a xs∧xs[i]? = some x,fun i H x H'=>H'=H∧∀ xs,SqL K H a xs→xs[i]? = some x,fun i H=>∃ xs,SqL K H a xs∧xs.length ≤ i⟩
def Itt (K:PySem.W.Frag) (a:Addr):It :=
 ⟨fun i H=>∃ xs x,SqT K H a xs∧xs[i]? = some x,fun i H x H'=>H'=H∧∀ xs,SqT K H a xs→xs[i]? = some x,fun i H=>∃ xs,SqT K H a xs∧xs.length ≤ i⟩
def Itr (lo:Int) (n:Nat):It:=⟨fun i _=>i < n,fun i H x H'=>H'=H∧x = .int (lo + i),fun i _=>n ≤ i⟩
theorem zhs {P:Program} {w:World} {K:PySem.W.Frag} {tg:Expr} (a it:Addr):Turn P w K tg (Itl K a) [it] it (fun i h=>h.IsListIter it a i) where
 mem:=by simp
 obj:=fun i h st b hb=>by
  have e:b=it:=by simpa using hb
  subst e
  obtain ⟨o,e,c,d⟩:=st
  exact ⟨o,e,fun v z=>by rw [d] at z;cases z⟩
 keep:=fun i h h' st k=>st.at fun o e=>k it (by simp) o e
 item:=by
  intro X hP hw hK hc i pins s σ H E I hf st hg
  subst hP hw hK
  obtain ⟨xs,x,hq,hx⟩:=hg
  obtain ⟨its,rv,p,hz⟩:=I.list hq
  obtain ⟨u,hu,ru⟩:=rv.get hx
  obtain ⟨f0,f1,f2,f3,f4,f5⟩:=hf it (by simp)
  refine wpAny_pyNext_list_item st p.isList (x:=u) (by simpa using hu) fun h' st' sb=>?_
  have I1:Inv X pins σ H { s with heap:=h' }:=I.turned (t':=s.toks) (fun b o hb e=>(sb.2 b hb).trans e) f0 f1 f3 f4 f5
  obtain ⟨o,e,c,d⟩:=id st'
  exact ⟨u,rfl,zhR (s:={ s with heap:=h' }) e c d (by decide) ⟨x,H,I1,ru,⟨rfl,fun ys hy=>by rw [I.zdl hy hq];exact hx⟩,st',fun b hb=>(hf b hb).1⟩⟩
 done:=by
  intro X hP hw hK hc i pins s σ H E I hf st hg
  subst hP hw hK
  obtain ⟨xs,hq,hx⟩:=hg
  obtain ⟨its,rv,p,hz⟩:=I.list hq
  obtain ⟨f0,f1,f2,f3,f4,f5⟩:=hf it (by simp)
  have hl:=rv.length
  exact wpAny_pyNext_list_end (I.ok.hd hc) st p.isList (by simp;omega) fun h' eb=>⟨rfl,I.turned (t':=s.toks) (fun b o hb e=>eb b o hb e) f0 f1 f3 f4 f5⟩
 self:=fun _ _ _ _ _ st h=>wpAny_pyIter_listiter st h
theorem zge {P:Program} {w:World} {K:PySem.W.Frag} {tg:Expr} (a it:Addr):Turn P w K tg (Itt K a) [it] it (fun i h=>h.IsTupleIter it a i) where
 mem:=by simp
 obj:=fun i h st b hb=>by
  have e:b=it:=by simpa using hb
  subst e
  obtain ⟨o,e,c,d⟩:=st
  exact ⟨o,e,fun v z=>by rw [d] at z;cases z⟩
 keep:=fun i h h' st k=>st.at fun o e=>k it (by simp) o e
 item:=by
  intro X hP hw hK hc i pins s σ H E I hf st hg
  subst hP hw hK
  obtain ⟨xs,x,hq,hx⟩:=hg
  obtain ⟨its,rv,p,hz⟩:=I.tuple hq
  obtain ⟨u,hu,ru⟩:=rv.get hx
  obtain ⟨f0,f1,f2,f3,f4,f5⟩:=hf it (by simp)
  refine wpAny_pyNext_tuple_item st (show s.heap.IsTuple a its.toArray from p) (x:=u) (by simpa using hu) fun h' st' sb=>?_
  have I1:Inv X pins σ H { s with heap:=h' }:=I.turned (t':=s.toks) (fun b o hb e=>(sb.2 b hb).trans e) f0 f1 f3 f4 f5
  obtain ⟨o,e,c,d⟩:=id st'
  exact ⟨u,rfl,zhR (s:={ s with heap:=h' }) e c d (by decide) ⟨x,H,I1,ru,⟨rfl,fun ys hy=>by rw [I.zhO hy hq];exact hx⟩,st',fun b hb=>(hf b hb).1⟩⟩
 done:=by
  intro X hP hw hK hc i pins s σ H E I hf st hg
  subst hP hw hK
  obtain ⟨xs,hq,hx⟩:=hg
  obtain ⟨its,rv,p,hz⟩:=I.tuple hq
  obtain ⟨f0,f1,f2,f3,f4,f5⟩:=hf it (by simp)
  have hl:=rv.length
  exact wpAny_pyNext_tuple_end (I.ok.hd hc) st (show s.heap.IsTuple a its.toArray from p) (by simp;omega) fun h' eb=>⟨rfl,I.turned (t':=s.toks) (fun b o hb e=>eb b o hb e) f0 f1 f3 f4 f5⟩
 self:=fun _ _ _ _ _ st h=>wpAny_pyIter_tupleiter st h
theorem zgv {P:Program} {w:World} {K:PySem.W.Frag} {tg:Expr} (it:Addr) (lo:Int) (n:Nat):Turn P w K tg (Itr lo n) [it] it (fun i h=>IsRangeIter h it (lo + (i:Nat) * 1) ((n:Int) - (i:Nat)) 1) where
 mem:=by simp
 obj:=fun i h st b hb=>by
  have e:b=it:=by simpa using hb
  subst e
  exact ⟨_,st,fun v z=>by
   have z':Data.fields _=Data.cell v:=z
   cases z'⟩
 keep:=fun i h h' st k=>k it (by simp) _ st
 item:=by
  intro X hP hw hK hc i pins s σ H E I hf st hg
  subst hP hw hK
  obtain ⟨f0,f1,f2,f3,f4,f5⟩:=hf it (by simp)
  have W:=Walks.range (prog:=X.prog) (w:=X.w) (I.ok.hd hc) it lo 1 n
  refine W.item i s _ _ hg st fun v h' tk hv st' kk=>?_
  obtain ⟨t,rfl⟩:=hv
  have I1:Inv X pins σ H { s with heap:=h',toks:=tk }:=I.turned (fun b o hb e=>kk b o (by simpa using hb) e) f0 f1 f3 f4 f5
  refine ⟨_,rfl,zhR (s:={ s with heap:=h',toks:=tk }) (n := "range_iterator") st' rfl rfl (by decide) ⟨.int (lo + i),H,I1,⟨t,?_⟩,⟨rfl,rfl⟩,st',fun b hb=>(hf b hb).1⟩⟩
  rw [Int.mul_one]
 done:=by
  intro X hP hw hK hc i pins s σ H E I hf st hg
  subst hP hw hK
  obtain ⟨f0,f1,f2,f3,f4,f5⟩:=hf it (by simp)
  exact wpAny_pyNext_range_end (I.ok.hd hc) st (by have:n ≤ i:=hg;omega) fun h' eb=>⟨rfl,I.turned (t':=s.toks) (fun b o hb e=>eb b o hb e) f0 f1 f3 f4 f5⟩
 self:=fun _ _ _ _ _ st h=>wpAny_pyIter_rangeiter st h
end L2
namespace L2
open PySem PySem.Spec PyProof.Rows
section
variable {X:Cx} {tg:Expr}
theorem zh5 {pins:List (Addr × Obj)} {σ:St} {H:Hp} {s:Shared} {R:It→Hp→Prop} {E:Value→Shared→Prop} {lo hi:Int} {t u v:Tok} {tk:Nat} (I:Inv X pins σ H s) (h1 : -(2 ^ 62) ≤ lo) (h2:lo < 2 ^ 62) (h3 : -(2 ^ 62) ≤ hi) (h4:hi < 2 ^ 62)
  (q:R (Itr lo (hi - lo).toNat) H):wpAny (model X.prog X.w) X.A (pyIter (.ref s.heap.objs.size)) (PIE X pins σ tg R) E { s with heap:=s.heap.push { cls := .type "range",data := .fields #[.int lo t, .int hi u, .int 1 v] },toks:=tk }:=by
 refine wpAny_pyIter_range (IsRange.new ..) (small_one h1 h2 h3 h4) ?_
 have I1:Inv X pins σ H { s with heap:=s.heap.push { cls := .type "range",data := .fields #[.int lo t, .int hi u, .int 1 v] },toks:=tk }:=I.kept fun b o e=>Heap.get?_push_of_some _ e
 refine ⟨(s.heap.push { cls := .type "range",data := .fields #[.int lo t, .int hi u, .int 1 v] }).objs.size,[(s.heap.push { cls := .type "range",data := .fields #[.int lo t, .int hi u, .int 1 v] }).objs.size],_,_,H,rfl,
  I1.kept (t':=tk) fun b o e=>Heap.get?_push_of_some _ e,zgv _ lo (hi - lo).toNat,?_,fun b hb=>?_,q⟩
 ·have e1:lo + ((0:Nat):Int) * 1=lo:=by simp
  have e2:(((hi - lo).toNat:Nat):Int) - ((0:Nat):Int)=Builtin.Range.rangeSize lo hi 1:=by rw [rangeSize_one];split <;> omega
  show IsRangeIter _ _ (lo + ((0:Nat):Int) * 1) ((((hi - lo).toNat:Nat):Int) - ((0:Nat):Int)) 1
  rw [e1,e2]
  exact Heap.get?_push_size _ rfl
 ·have e:b=(s.heap.push { cls := .type "range",data := .fields #[.int lo t, .int hi u, .int 1 v] }).objs.size:=by simpa using hb
  subst e
  exact I1.fpOk (Nat.le_refl _) (I1.hok.fresh (Nat.le_refl _))
def zml (ta:TA):TI:=fun σ H R=>ta σ H fun vs H1=>∃ j:Int,vs=[.int j]∧-(2 ^ 62) ≤ j∧j < 2 ^ 62∧R (Itr 0 j.toNat) H1
theorem zhC {a:Expr} {ta:TA} {p pos:Pos} (hg:Gl X "range") (hm:X.mg "range" = none) (ha:PA X [a] ta) (hs:starEach [a] X.env=[(false,eval a X.env)]:=by rfl):PI X tg (.Call (.Name "range" p) [a] [] pos) (zml ta):=by
 intro pins s σ H R I h
 refine Call_ (zdT I hg hm boot_range (PyProof.Rows.callWith_type1 (thn (ha pos pins s σ H _ I h) fun us s1 ⟨vs,H1,I1,r1,q1⟩=>?_) hs rfl))
 obtain ⟨j,e,q1,q2,q⟩:=q1
 subst e
 cases r1 with
 | cons r rr =>
  cases rr
  obtain ⟨t,rfl⟩:=r
  exact call_range_1 (zh5 I1 (by omega) (by omega) q1 q2 (by simpa using q))
def tFor (wi:TI) (g:TG) (tb:TS):TS:=fun D σ H=>wi σ H fun J H1=>∃ W:Nat→Nat→St→Hp→Prop,(∃ m,W 0 m σ H1)∧∀ i m σ H,W i m σ H →
 (J.stop i H∧D.nx σ H)∨(J.go i H∧∃ N:St→Hp→Prop,(∀ σ' H',N σ' H'→∃ m',m' < m∧W (i + 1) m' σ' H')∧∀ x H',J.yld i H x H'→g x σ H' fun σ2 H2=>tb { D with nx:=N,ct:=N,bk:=D.nx } σ2 H2)
def zeU (fp:List Addr) (h:Heap):List (Addr × Obj):=fp.filterMap fun b=>(h.get? b).map fun o=>(b,o)
theorem zcv {fp:List Addr} {h:Heap} {b:Addr} {o:Obj} (hb:b ∈ fp) (e:h.get? b=some o):(b,o) ∈ zeU fp h:=List.mem_filterMap.mpr ⟨b,hb,by rw [e];rfl⟩
theorem zg6 {fp:List Addr} {h:Heap} {p:Addr × Obj} (hp:p ∈ zeU fp h):p.1 ∈ fp∧h.get? p.1=some p.2:=by
 obtain ⟨b,hb,e⟩:=List.mem_filterMap.mp hp
 cases q:h.get? b with
 | none=>rw [q] at e;cases e
 | some o =>
  rw [q] at e
  have e':(b,o)=p:=Option.some.inj e
  subst e'
  exact ⟨hb,q⟩
theorem Inv.pinned {pins:List (Addr × Obj)} {σ:St} {H:Hp} {s:Shared} {fp:List Addr} (I:Inv X pins σ H s) (hf:∀ b ∈ fp,FpOk X pins H b) (ho:∀ b ∈ fp,∃ o,s.heap.get? b=some o∧∀ v,o.data ≠ .cell v):Inv X (pins ++ zeU fp s.heap) σ H s :=
 I.zfu fun p hp=>(List.mem_append.mp hp).elim (fun z=>I.pin p (List.mem_append_right _ z)) fun z=>by
  obtain ⟨hb,e⟩:=zg6 z
  obtain ⟨f0,f1,f2,_⟩:=hf p.1 hb
  obtain ⟨o,e',d⟩:=ho p.1 hb
  rw [e] at e';cases e'
  exact ⟨e,f0,f1,f2,d⟩
theorem Inv.zdk {pins pl:List (Addr × Obj)} {σ:St} {H:Hp} {s:Shared} (I:Inv X (pins ++ pl) σ H s):Inv X pins σ H s:=I.zfu fun p hp=>I.pin p (List.mem_append_right _ (List.mem_append_left _ hp))
theorem zkW {iter:Expr} {body:List Stmt} {wi:TI} {g:TG} {tb:TS} {pos:Pos} (hp:PassesOwn (model X.prog X.w) X.A X.env X.xe) (hc:X.calm=true) (hi:PI X tg iter wi) (hg:PG X tg g) (hb:PSs X body tb)
  (hs:∀ x,foldedSetIterable iter X.env x=pure x:=by intro _;rfl):PS X (.For tg iter body [] pos) (tFor wi g tb):=by
 intro pins s σ H D I h
 refine wpAny_For (thn (hi pins s σ H _ I h) fun v s1 h1=>thn h1 fun itv s2 h2=>?_) hs
 obtain ⟨it,fp,tn,J,H2,e,I2,T,st2,f2,W,⟨m0,w0⟩,turn⟩:=h2
 subst e
 have stat:∀ {H':Hp},(∀ b ∈ fp,H' b=none)→∀ b ∈ fp,FpOk X pins H' b:=fun hn b hb=>⟨hn b hb,(f2 b hb).2⟩
 refine codeAny_forLoop_any (fun n s'=>∃ i σ' H',Inv X pins σ' H' s'∧tn i s'.heap∧(∀ b ∈ fp,H' b=none)∧W i n σ' H') ?_ m0 ⟨0,σ,H2,I2,st2,fun b hb=>(f2 b hb).1,w0⟩
 rintro n s3 ⟨i,σ3,H3,I3,st3,fr3,w3⟩
 rcases turn i n σ3 H3 w3 with ⟨stop,qn⟩ | ⟨go,N,hN,step⟩
 ·refine wpAny_passesOwn hp (thn (T.done X rfl rfl rfl hc i pins s3 σ3 H3 X.xe I3 (stat fr3) st3 stop) fun r s4 ⟨hr,I4⟩=>?_)
  subst hr
  exact wpAny_execs_nil ⟨σ3,H3,I4,qn⟩
 ·refine wpAny_passesOwn hp (thn (T.item X rfl rfl rfl hc i pins s3 σ3 H3 X.xe I3 (stat fr3) st3 go) fun r s4 ⟨u,hr,h4⟩=>?_)
  subst hr
  refine wpAny_passesOwn hp (thn h4 fun _ s5 ⟨x,H5,I5,r5,y5,st5,fr5⟩=>?_)
  have I5':=I5.pinned (stat fr5) (T.obj _ _ st5)
  refine wpAny_passesOwn hp (thn (hg _ s5 σ3 H5 x u _ I5' r5 (step x H5 y5)) fun _ s6 ⟨σ6,H6,I6,q6⟩=>?_)
  refine wpAny_passesOwn hp (thn (hb _ s6 σ6 H6 _ I6 q6) fun f s7 q7=>?_)
  have again:∀ {σ7:St} {H7:Hp},Inv X (pins ++ zeU fp s5.heap) σ7 H7 s7→N σ7 H7→∃ m,m < n∧∃ i σ' H',Inv X pins σ' H' s7∧tn i s7.heap∧(∀ b ∈ fp,H' b=none)∧W i m σ' H':=fun {σ7 H7} I7 n7=>by
   obtain ⟨m',hm,w7⟩:=hN σ7 H7 n7
   refine ⟨m',hm,i + 1,σ7,H7,I7.zdk,T.keep _ _ _ st5 fun b hb o e=>(I7.pin (b,o) (List.mem_append_right _ (List.mem_append_right _ (zcv hb e)))).1,fun b hb=>?_,w7⟩
   obtain ⟨o,e,d⟩:=T.obj _ _ st5 b hb
   exact (I7.pin (b,o) (List.mem_append_right _ (List.mem_append_right _ (zcv hb e)))).2.1
  cases f with
  | next=>obtain ⟨σ7,H7,I7,n7⟩:=q7;exact again I7 n7
  | cont=>obtain ⟨σ7,H7,I7,n7⟩:=q7;exact again I7 n7
  | brk=>obtain ⟨σ7,H7,I7,q7⟩:=q7;exact ⟨σ7,H7,I7.zdk,q7⟩
  | ret v=>obtain ⟨x7,σ7,H7,I7,r7,q7⟩:=q7;exact ⟨x7,σ7,H7,I7.zdk,r7,q7⟩
end
end L2
namespace L2
open PySem PySem.Spec PyProof.Rows
abbrev R2:=V→V→Hp→VK→Prop
def OpR (X:Cx) (f:Value→Value→Sem Value) (r:R2):Prop :=
 ∀ (pins:List (Addr × Obj)) (s:Shared) (σ:St) (H:Hp) (x y:V) (v u:Value) (Q:VK),Inv X pins σ H s→RelV x v→RelV y u→r x y H Q →
  wpAny (model X.prog X.w) X.A (f v u) (EP X pins σ Q) X.xe s
def zcI (X:Cx) (f:Value) (r:List V→Hp→VK→Prop):Prop :=
 ∀ (pins:List (Addr × Obj)) (s:Shared) (σ:St) (H:Hp) (xs:List V) (us:List Value) (Q:VK),Inv X pins σ H s→Vals xs us→r xs H Q →
  wpAny (model X.prog X.w) X.A (call f us) (EP X pins σ Q) X.xe s
def tOp (r:R2) (ta tb:TE):TE:=fun σ H Q=>ta σ H fun x H1=>tb σ H1 fun y H2=>r x y H2 Q
def rI (C:Int→Int→Prop) (g:Int→Int→V):R2:=fun x y H Q=>∃ i j,x = .int i∧y = .int j∧C i j∧Q (g i j) H
def rI0 (g:Int→Int→V):R2:=fun x y H Q=>∃ i j,x = .int i∧y = .int j∧Q (g i j) H
section
variable {X:Cx} {a b c:Expr} {ta tb tc:TE} {pos:Pos}
theorem binT (ha:PE X a ta) (hb:PE X b tb) {pins:List (Addr × Obj)} {s:Shared} {σ:St} {H:Hp} {R:V→V→Hp→Prop} (I:Inv X pins σ H s)
  (h:ta σ H fun x H1=>tb σ H1 fun y H2=>R x y H2) {Q:Value→Shared→Prop} {f:Value→Value→Sem Value}
  (hf:∀ v u s2 x y H2,Inv X pins σ H2 s2→RelV x v→RelV y u→R x y H2→wpAny (model X.prog X.w) X.A (f v u) Q X.xe s2) :
  wpAny (model X.prog X.w) X.A (eval a X.env) (fun v s₁=>wpAny (model X.prog X.w) X.A (eval b X.env) (fun u s₂=>wpAny (model X.prog X.w) X.A (f v u) Q X.xe s₂) X.xe s₁) X.xe s:=by
 refine thn (ha pins s σ H _ I h) fun v s1 ⟨x,H1,I1,r1,q1⟩=>?_
 refine thn (hb pins s1 σ H1 _ I1 q1) fun u s2 ⟨y,H2,I2,r2,q2⟩=>?_
 exact hf v u s2 x y H2 I2 r1 r2 q2
theorem zmp {op:Operator} {r:R2} (ho:OpR X (binaryOp op) r) (ha:PE X a ta) (hb:PE X b tb):PE X (.BinOp a op b pos) (tOp r ta tb):=by
 intro pins s σ H Q I h
 exact wpAny_BinOp (binT ha hb I h fun v u s2 x y H2 I2 rx ry q=>ho pins s2 σ H2 x y v u Q I2 rx ry q)
theorem opI {f:Value→Value→Sem Value} {C:Int→Int→Prop} {g:Int→Int→Int}
  (rule:∀ (i j:Int) (t u:Tok) (s:Shared) (Q:Value→Shared→Prop) (E:Value→Shared→Prop),C i j→Q (.int (g i j) s.toks) { s with toks:=s.toks + 1 }→wpAny (model X.prog X.w) X.A (f (.int i t) (.int j u)) Q E s) :
  OpR X f (rI C fun i j => .int (g i j)):=by
 intro pins s σ H x y v u Q I rx ry h
 obtain ⟨i,j,rfl,rfl,hc,q⟩:=h
 obtain ⟨t,rfl⟩:=rx
 obtain ⟨t',rfl⟩:=ry
 exact rule i j t t' s _ _ hc ⟨.int (g i j),H,I.tok _,⟨_,rfl⟩,q⟩
theorem opI0 {f:Value→Value→Sem Value} {g:Int→Int→Int}
  (rule:∀ (i j:Int) (t u:Tok) (s:Shared) (Q:Value→Shared→Prop) (E:Value→Shared→Prop),Q (.int (g i j) s.toks) { s with toks:=s.toks + 1 }→wpAny (model X.prog X.w) X.A (f (.int i t) (.int j u)) Q E s) :
  OpR X f (rI0 fun i j => .int (g i j)):=by
 intro pins s σ H x y v u Q I rx ry h
 obtain ⟨i,j,rfl,rfl,q⟩:=h
 obtain ⟨t,rfl⟩:=rx
 obtain ⟨t',rfl⟩:=ry
 exact rule i j t t' s _ _ ⟨.int (g i j),H,I.tok _,⟨_,rfl⟩,q⟩
theorem opB0 {f:Value→Value→Sem Value} {g:Int→Int→Bool}
  (rule:∀ (i j:Int) (t u:Tok) (s:Shared) (Q:Value→Shared→Prop) (E:Value→Shared→Prop),Q (.bool (g i j)) s→wpAny (model X.prog X.w) X.A (f (.int i t) (.int j u)) Q E s) :
  OpR X f (rI0 fun i j => .bl (g i j)):=by
 intro pins s σ H x y v u Q I rx ry h
 obtain ⟨i,j,rfl,rfl,q⟩:=h
 obtain ⟨t,rfl⟩:=rx
 obtain ⟨t',rfl⟩:=ry
 exact rule i j t t' s _ _ ⟨.bl (g i j),H,I,rfl,q⟩
def CDiv (i j:Int):Prop:=0 < j∧j < 1073741824
def CPow (i j:Int):Prop:=0 ≤ j∧j ≤ 1000000∧i.natAbs < 2 ^ 64
def CMul (i j:Int):Prop:=(-(2 ^ 64) < i∧i < 2 ^ 64)∨(-(2 ^ 64) < j∧j < 2 ^ 64)
theorem CMul.ok {i j:Int} (h:CMul i j):IntMulOk i j:=by
 rcases h with ⟨h1,h2⟩ | ⟨h1,h2⟩
 ·exact .of_left (intBits_le_64 h1 h2)
 ·exact .of_right (intBits_le_64 h1 h2)
theorem zlx:OpR X (binaryOp .Add) (rI0 fun i j => .int (i + j)):=opI0 fun _ _ _ _ _ _ _ q=>add_int q
theorem zlj:OpR X (binaryOp .Sub) (rI0 fun i j => .int (i - j)):=opI0 fun _ _ _ _ _ _ _ q=>sub_int q
theorem zle:OpR X (binaryOp .Mult) (rI CMul fun i j => .int (i * j)):=opI fun _ _ _ _ _ _ _ hc q=>mul_int q hc.ok
theorem zj0:OpR X (binaryOp .FloorDiv) (rI CDiv fun i j => .int (i / j)):=opI fun i j _ _ _ _ _ hc q=>by
 have h1:(0:Int) < j:=hc.1
 have h2:j < 1073741824:=hc.2
 exact floordiv_int (by omega) (by rw [Int.fdiv_eq_ediv_of_nonneg i (by omega)];exact q) (.inl (PyProof.noPylong_small (by omega)))
theorem zl0:OpR X (binaryOp .Mod) (rI (fun _ j=>0 < j) fun i j => .int (i % j)):=opI fun i j _ _ _ _ _ hc q=>by
 have h1:(0:Int) < j:=hc
 exact mod_int' (by omega) (by rw [Int.fmod_eq_emod_of_nonneg i (by omega)];exact q)
theorem zlE:OpR X (binaryOp .Pow) (rI CPow fun i j => .int (i ^ j.toNat)):=opI fun _ _ _ _ _ _ _ hc q=>pow_int_small hc.1 hc.2.1 hc.2.2 q
end
section
variable {X:Cx} {a b c:Expr} {ta tb tc:TE} {pos:Pos}
theorem zmg:OpR X (compareOp .Lt) (rI0 fun i j => .bl (decide (i < j))):=opB0 fun _ _ _ _ _ _ _ q=>lt_int q
theorem zme:OpR X (compareOp .Gt) (rI0 fun i j => .bl (decide (j < i))):=opB0 fun _ _ _ _ _ _ _ q=>gt_int q
theorem OpR.or {f:Value→Value→Sem Value} {r r':R2} (h:OpR X f r) (h':OpR X f r'):OpR X f (fun x y H Q=>r x y H Q∨r' x y H Q):=by
 intro pins s σ H x y v u Q I rx ry q
 rcases q with q | q
 ·exact h pins s σ H x y v u Q I rx ry q
 ·exact h' pins s σ H x y v u Q I rx ry q
theorem zbC (b:Expr) {op:CmpOp} (h:op ≠ .In:=by decide) (h2:op ≠ .NotIn:=by decide):behindInMarks op b=false:=by
 have e1:(op == CmpOp.In)=false:=by cases op <;> first | rfl | exact absurd rfl h
 have e2:(op == CmpOp.NotIn)=false:=by cases op <;> first | rfl | exact absurd rfl h2
 cases b <;> simp [behindInMarks,e1,e2]
theorem zkg {op:CmpOp} {r:R2} (ho:OpR X (compareOp op) r) (ha:PE X a ta) (hb:PE X b tb) (hm:behindInMarks op b=false):PE X (.Compare a [op] [b] pos) (tOp r ta tb):=by
 intro pins s σ H Q I h
 exact wpAny_Compare1 (binT ha hb I h fun v u s2 x y H2 I2 rx ry q=>ho pins s2 σ H2 x y v u Q I2 rx ry q) hm
def zk4 (t:TE):TT:=fun σ H Q=>t σ H fun x H'=>∃ k,x = .bl k∧Q k H'
theorem zjy {op:CmpOp} {r:R2} (ho:OpR X (compareOp op) r) (ha:PE X a ta) (hb:PE X b tb) (hm:behindInMarks op b=false):PT X (.Compare a [op] [b] pos) (zk4 (tOp r ta tb)):=by
 intro pins s σ H Q I h
 refine wpAny_isTrue_Compare1 (thn (ha pins s σ H _ I h) fun v s1 ⟨x,H1,I1,r1,q1⟩=>thn (hb pins s1 σ H1 _ I1 q1) fun u s2 ⟨y,H2,I2,r2,q2⟩ =>
  thn (ho pins s2 σ H2 x y v u _ I2 r1 r2 q2) fun c s3 ⟨z,H3,I3,r3,k,e,q3⟩=>?_) hm
 subst e
 cases r3
 exact wpAny_truthy_bool ⟨H3,I3,q3⟩
theorem zeZ:(sizeLine:Nat) < 2 ^ 63:=by rw [sizeLine_eq];decide
theorem vals1 {x:V} {us:List Value} (r:Vals [x] us):∃ u,us=[u]∧RelV x u:=by
 cases r with
 | cons r1 r2=>cases r2;exact ⟨_,rfl,r1⟩
theorem vals2 {x y:V} {us:List Value} (r:Vals [x,y] us):∃ u w',us=[u,w']∧RelV x u∧RelV y w':=by
 cases r with
 | cons r1 r2 =>
  cases r2 with
  | cons r3 r4=>cases r4;exact ⟨_,_,rfl,r1,r3⟩
theorem zgS (hc:X.calm=true):zcI X (.builtin "max") (fun xs H Q=>∃ i j,xs=[.int i, .int j]∧Q (.int (if j > i then j else i)) H):=by
 intro pins s σ H xs us Q I r h
 obtain ⟨i,j,rfl,q⟩:=h
 obtain ⟨u,w',rfl,⟨t,rfl⟩,⟨t',rfl⟩⟩:=vals2 r
 refine max_two_ints (I.ok.hd hc) fun h' tk k=>⟨_,H,I.kept k,?_,q⟩
 by_cases hj:j > i
 ·rw [if_pos hj,if_pos hj];exact ⟨_,rfl⟩
 ·rw [if_neg hj,if_neg hj];exact ⟨_,rfl⟩
theorem zgM (hc:X.calm=true):zcI X (.builtin "min") (fun xs H Q=>∃ i j,xs=[.int i, .int j]∧Q (.int (if j < i then j else i)) H):=by
 intro pins s σ H xs us Q I r h
 obtain ⟨i,j,rfl,q⟩:=h
 obtain ⟨u,w',rfl,⟨t,rfl⟩,⟨t',rfl⟩⟩:=vals2 r
 refine min_two_ints (I.ok.hd hc) fun h' tk k=>⟨_,H,I.kept k,?_,q⟩
 by_cases hj:j < i
 ·rw [if_pos hj,if_pos hj];exact ⟨_,rfl⟩
 ·rw [if_neg hj,if_neg hj];exact ⟨_,rfl⟩
theorem zgH:zcI X (.type "int") (fun xs H Q=>(∃ i,xs=[.int i]∧Q (.int i) H)∨∃ k,xs=[.bl k]∧Q (.int (if k then 1 else 0)) H):=by
 intro pins s σ H xs us Q I r h
 rcases h with ⟨i,rfl,q⟩ | ⟨k,rfl,q⟩
 ·obtain ⟨u,rfl,t,rfl⟩:=vals1 r
  exact call_int_int ⟨.int i,H,I,⟨_,rfl⟩,q⟩
 ·obtain ⟨u,rfl,r1⟩:=vals1 r
  cases r1
  exact call_int_bool ⟨.int (if k then 1 else 0),H,I.tok _,⟨_,rfl⟩,q⟩
end
end L2
namespace L2
open PySem PySem.Spec PyProof.Rows
structure ObjM (h:Heap) (x dx C:Addr) (mA:Str→Option Value):Prop where
 obj:h.get? x=some (PySem.W.instObj C dx)
 ns:h.Ns1 dx mA
 ne:dx ≠ x
theorem zgN {h:Heap} {dx:Addr} {mA:Str→Option Value} (n:h.Ns1 dx mA):∃ od,h.get? dx=some od∧∀ name,PySem.W.lookIn name od=some (mA name):=by
 obtain ⟨o,es,ep,ho,hd,hk,_,hm⟩:=n
 refine ⟨o,ho,fun name=>?_⟩
 have e:=hm name
 unfold nsFind findBy at e
 rw [← Array.find?_toList] at e
 unfold PySem.W.lookIn
 rw [hd]
 dsimp only
 split
 ·rename_i y q
  rw [q] at e
  exact congrArg some e
 ·rename_i q
  rw [q] at e
  have a:es.toList.any (·.refKey)=false:=by
   rw [List.any_eq_false]
   intro y hy
   obtain ⟨z,t,hkey⟩:=hk y (Array.mem_toList_iff.mp hy)
   simp [DictEntry.refKey,hkey]
  have a':¬ es.toList.any (·.refKey)=true:=by rw [a];exact Bool.false_ne_true
  rw [if_neg a']
  exact congrArg some e
theorem ObjM.look {h:Heap} {x dx C:Addr} {mA:Str→Option Value} (I:ObjM h x dx C mA):∃ od,PySem.W.InstAt h x (PySem.W.instObj C dx) C (some od)∧∀ name,PySem.W.lookIn name od=some (mA name) :=
 let ⟨od,ho,hl⟩:=zgN I.ns
 ⟨od,⟨I.obj,rfl,rfl,ho⟩,hl⟩
section
variable {prog:Program} {w:World} {A:Around} {E:Value→Shared→Prop} {s:Shared} {K:PySem.W.Frag} {x dx C f:Addr} {mA:Str→Option Value} {name:Str} {v:Value}
theorem get_map {expr:Bool} {Q:Value→Shared→Prop} (X:K.In s.heap) (I:ObjM s.heap x dx C mA) (hg:PySem.W.plainGet K C name=true) (hh:PySem.W.hasDictIn K C=true)
  (ha:PySem.W.findIn K (.ref C) name=some none) (hv:mA name=some v) (hv':PySem.W.handedIn v=true) (h:Q v { s with toks:=s.toks + 1 }) :
  wpAny (model prog w) A (getAttr (.ref x) name expr) Q E s:=by
 obtain ⟨od,J,hl⟩:=I.look
 exact PySem.W.get_value X J (PySem.W.plainGet_of hg).1 (PySem.W.findObj_own hh ha rfl (by rw [hl,hv])) hv' h
theorem ziC {pl:Sem Bool} {Q:Value × List Value→Shared→Prop} (X:K.In s.heap) (I:ObjM s.heap x dx C mA) (hg:PySem.W.plainGet K C name=true)
  (hf:PySem.W.findIn K (.ref C) name=some (some (.ref f))) (ht:PySem.W.isFn K (.ref f)=true) (hv:mA name=none) (h:Q (.ref f,[.ref x]) s) :
  wpAny (model prog w) A (getMethod (.ref x) name pl) Q E s:=by
 obtain ⟨od,J,hl⟩:=I.look
 exact PySem.W.method_fn X J (PySem.W.plainGet_of hg).1 (PySem.W.plainGet_of hg).2 hf (beq_iff_eq.mp ht) (by show (PySem.W.lookIn name od).map (·.isSome)=some false;rw [hl,hv];rfl) h
theorem zkc {ns:List Str} {Q:Unit→Shared→Prop} (X:K.In s.heap) (I:ObjM s.heap x dx C mA)
  (hs:PySem.W.findIn K (.ref C) "__setattr__" = some (some (.builtin "object.__setattr__"))) (hp:PySem.W.plainOver K C=true) (ht:PySem.W.takerIn K C name=some none) (hh:PySem.W.hasDictIn K C=true)
  (hw:PySem.Within mA ns) (hsz:ns.length ≤ sizeLine)
  (h:∀ h',ObjM h' x dx C (fun y=>if y=name then some v else mA y)→Heap.SameBut dx s.heap h'→Q () { s with heap:=h',toks:=s.toks + 2 }) :
  wpAny (model prog w) A (setAttr (.ref x) name v) Q E s:=by
 obtain ⟨od,J,hl⟩:=I.look
 refine PySem.W.set_plain X J hs (PySem.W.osa_open (s:={ s with toks:=s.toks + 1 }) (r:=none) X J hp ht fun b=>?_)
 obtain ⟨cd,hc,hd'⟩:=PySem.W.any_some hh
 have hx:s.heap.get? x=some ⟨.ref C,some dx, .plain,#[]⟩:=I.obj
 refine wpAny_bind (wpAny_pure (wpAny_bind (wpAny_bind (wpAny_loadPart hx (wpAny_bind (PySem.W.Looks.here (s:={ s with toks:=s.toks + 1 }) (PySem.W.looks_clsIn X hc) ?_))))))
 rw [hd']
 refine wpAny_pure (a:=some dx) (wpAny_bind (wpAny_pure (wpAny_bind ?_)))
 refine wpAny_nsSet1 (s:={ s with toks:=s.toks + 1 }) I.ns fun h' hn2 hs2=>?_
 obtain ⟨oD,esD,epD,hoD,hdD,hcD⟩:=hn2.count (PySem.Within.cons name v hw)
 refine wpAny_bind (wpAny_lookBehind hoD (by rw [hdD];exact pastItsLine_dict (Nat.le_trans hcD (by rw [List.length_cons];omega))) ?_)
 exact wpAny_pure (h _ ⟨(hs2.2 _ (Ne.symm I.ne)).trans I.obj,hn2,I.ne⟩ hs2)
theorem ziy {R:Result→Shared→Prop} {vs:List Value} {kw:List (Str × Value)} (X:K.In s.heap) (hm:PySem.W.makesIn K C=true)
  (hi:PySem.W.findIn K (.ref C) "__init__" = some (some (.ref f))) (hf:PySem.W.typeIn K (.ref f)=some (.type "function"))
  (h:codeAny (model prog w) (A.under (.builtin "type.__call__" ⟨.ref C :: vs,kw⟩)) (.call (.ref f) ⟨.ref (s.heap.objs.size + 1) :: vs,kw⟩) (PySem.W.InitBack (s.heap.objs.size + 1) R)
   { s with heap:=(s.heap.push PySem.W.emptyDict).push (PySem.W.instObj C s.heap.objs.size) }) :
  codeAny (model prog w) A (.call (.ref C) ⟨vs,kw⟩) R s:=by
 obtain ⟨hh,g,d,t,os⟩:=s
 exact PySem.W.make_core (PySem.W.makes_of X hm) (PySem.W.looks_findIn X hi) (fun self=>PySem.W.bind_fn X self hf) (.inl rfl) h
end
def putF (f:Str) (v:V):List (Str × V)→List (Str × V)
 | []=>[(f,v)]
 | (g,x) :: r=>if g=f then (g,v) :: r else (g,x) :: putF f v r
theorem zdv (f g:Str) (v:V):∀ fs:List (Str × V),(putF f v fs).lookup g=if g=f then some v else fs.lookup g
 | []=>by
  show List.lookup g [(f,v)]=_
  by_cases h:g=f
  ·have hb:(g == f)=true:=beq_iff_eq.mpr h
   simp only [List.lookup,hb,if_pos h]
  ·have hb:(g == f)=false:=beq_eq_false_iff_ne.mpr h
   simp only [List.lookup,hb,if_neg h]
 | (k,x) :: r=>by
  have ih:=zdv f g v r
  rw [show putF f v ((k,x) :: r)=(if k=f then (k,v) :: r else (k,x) :: putF f v r) from rfl]
  by_cases hk:k=f
  ·rw [if_pos hk]
   by_cases h:g=k
   ·have hb:(g == k)=true:=beq_iff_eq.mpr h
    simp only [List.lookup,hb,if_pos (h.trans hk)]
   ·have hb:(g == k)=false:=beq_eq_false_iff_ne.mpr h
    simp only [List.lookup,hb,if_neg (fun e:g=f=>h (e.trans hk.symm))]
  ·rw [if_neg hk]
   by_cases h:g=k
   ·have hb:(g == k)=true:=beq_iff_eq.mpr h
    simp only [List.lookup,hb,if_neg (fun e:g=f=>hk (h.symm.trans e))]
   ·have hb:(g == k)=false:=beq_eq_false_iff_ne.mpr h
    simp only [List.lookup,hb]
    exact ih
theorem zdO (f:Str) (v:V):∀ fs:List (Str × V),f ∈ (putF f v fs).map (·.1)∧∀ g,g ∈ fs.map (·.1)→g ∈ (putF f v fs).map (·.1)
 | []=>⟨by simp [putF],fun g h=>by simp at h⟩
 | (k,x) :: r=>by
  obtain ⟨i1,i2⟩:=zdO f v r
  rw [show putF f v ((k,x) :: r)=(if k=f then (k,v) :: r else (k,x) :: putF f v r) from rfl]
  by_cases hk:k=f
  ·rw [if_pos hk]
   subst hk
   exact ⟨by simp,fun g h=>by simpa using h⟩
  ·rw [if_neg hk]
   refine ⟨?_,fun g h=>?_⟩
   ·rw [List.map_cons]
    exact List.mem_cons_of_mem _ i1
   ·rw [List.map_cons] at h ⊢
    rcases List.mem_cons.mp h with e | e
    ·exact List.mem_cons.mpr (.inl e)
    ·exact List.mem_cons_of_mem _ (i2 g e)
theorem zdq (f:Str) (v:V):∀ fs:List (Str × V),(putF f v fs).length ≤ fs.length + 1
 | []=>by simp [putF]
 | (k,x) :: r=>by
  have ih:=zdq f v r
  rw [show putF f v ((k,x) :: r)=(if k=f then (k,v) :: r else (k,x) :: putF f v r) from rfl]
  by_cases hk:k=f
  ·rw [if_pos hk,List.length_cons,List.length_cons];omega
  ·rw [if_neg hk,List.length_cons,List.length_cons];omega
theorem RelO.some_of {v:V} {o:Option Value} (r:RelO (some v) o):∃ u,o=some u∧RelV v u:=by
 cases o with
 | none=>exact (show False from r).elim
 | some u=>exact ⟨u,rfl,r⟩
theorem RelO.none_of {o:Option Value} (r:RelO none o):o=none:=by
 cases o with
 | none=>rfl
 | some u=>exact (show False from r).elim
theorem zg0 {v:V} {u:Value} (r:RelV v u):PySem.W.handedIn u=true:=by
 cases v with
 | non=>cases (show u=Value.none from r);rfl
 | bl b=>cases (show u=Value.bool b from r);rfl
 | int i=>obtain ⟨t,e⟩:=(show ∃ t,u=Value.int i t from r);cases e;rfl
 | str x=>obtain ⟨t,e⟩:=(show ∃ t,u=Value.str x t from r);cases e;rfl
 | byt b=>obtain ⟨t,e⟩:=(show ∃ t,u=Value.bytes b t from r);cases e;rfl
 | flt b=>obtain ⟨t,e⟩:=(show ∃ t,u=Value.float b t from r);cases e;rfl
 | ref a=>cases (show u=Value.ref a from r);rfl
 | ty n=>cases (show u=Value.type n from r);rfl
section
variable {P:Program} {w:World} {H H':Hp} {h h':Heap} {a C dx:Addr} {fs fs':List (Str × V)}
theorem zef (hok:HOk P w H h) (e:H a=some (.ins C dx fs)):∃ mA,ObjM h a dx C mA∧(∀ f,RelO (fs.lookup f) (mA f))∧PySem.Within mA (fs.map (·.1))∧fs.length ≤ 1000∧H dx=some (.own a):=by
 obtain ⟨d,z,ne,ob,mA,n,r,q⟩:=(show zbS P w H h a (.ins C dx fs) from hok a _ e)
 exact ⟨mA,⟨ob,n,ne⟩,r,q,z,d⟩
end
structure Cls (K:PySem.W.Frag) (C:Addr):Prop where
 pg:PySem.W.plainGet K C Str.empty=true
 hd:PySem.W.hasDictIn K C=true
 po:PySem.W.plainOver K C=true
 sa:PySem.W.findIn K (.ref C) "__setattr__" = some (some (.builtin "object.__setattr__"))
theorem Cls.get {K:PySem.W.Frag} {C:Addr} (c:Cls K C) (f:Str):PySem.W.plainGet K C f=true:=c.pg
def zdN (K:PySem.W.Frag) (C:Addr) (f:Str):Prop:=PySem.W.findIn K (.ref C) f=some none
theorem zdN.zmf {K:PySem.W.Frag} {C:Addr} {f:Str} (n:zdN K C f):PySem.W.takerIn K C f=some none:=by
 unfold PySem.W.takerIn
 rw [show PySem.W.findIn K (.ref C) f=some none from n]
 rfl
structure Con (K:PySem.W.Frag) (C:Addr) (f:Str) (v:V) (u:Value):Prop where
 at_:PySem.W.findIn K (.ref C) f=some (some u)
 rel:RelV v u
 get:PySem.W.specialIn K u "__get__" = some none
 cp:PySem.W.copiedNames.contains f=false
structure Meth (K:PySem.W.Frag) (C:Addr) (m:Str) (f:Addr):Prop where
 at_:PySem.W.findIn K (.ref C) m=some (some (.ref f))
 fn:PySem.W.isFn K (.ref f)=true
 kp:PySem.W.keepIn K (.ref f)=true
section
variable {X:Cx} {pins:List (Addr × Obj)} {σ:St} {H:Hp} {s:Shared} {a C dx:Addr} {fs:List (Str × V)} {f:Str} {v:V} {A:Around} {E:Value→Shared→Prop}
theorem zgr {b:Bool} {Q:Value→Shared→Prop} (I:Inv X pins σ H s) (e:H a=some (.ins C dx fs)) (c:Cls X.K C) (n:zdN X.K C f) (l:fs.lookup f=some v)
  (h:∀ u s',Inv X pins σ H s'→RelV v u→Q u s'):wpAny (model X.prog X.w) A (getAttr (.ref a) f b) Q E s:=by
 obtain ⟨mA,O,r,_,_,_⟩:=zef I.hok e
 obtain ⟨u,hu,ru⟩:=RelO.some_of (v:=v) (o:=mA f) (by rw [← l];exact r f)
 exact get_map I.kIn O (c.get f) c.hd n hu (zg0 ru) (h u _ (I.tok _) ru)
theorem zdU {m:Str} {g:Addr} {pl:Sem Bool} {Q:Value × List Value→Shared→Prop} (I:Inv X pins σ H s) (e:H a=some (.ins C dx fs)) (c:Cls X.K C) (k:Meth X.K C m g) (l:fs.lookup m=none)
  (h:Q (.ref g,[.ref a]) s):wpAny (model X.prog X.w) A (getMethod (.ref a) m pl) Q E s:=by
 obtain ⟨mA,O,r,_,_,_⟩:=zef I.hok e
 have hn:mA m=none:=RelO.none_of (by rw [← l];exact r m)
 exact ziC I.kIn O (c.get m) k.at_ k.fn hn h
theorem zgo {y:V} {u:Value} {Q:Unit→Shared→Prop} (I:Inv X pins σ H s) (e:H a=some (.ins C dx fs)) (c:Cls X.K C) (n:zdN X.K C f) (hl:fs.length < 1000) (ry:RelV y u)
  (h:∀ s',Inv X pins σ (upd H a (.ins C dx (putF f y fs))) s'→Q () s'):wpAny (model X.prog X.w) A (setAttr (.ref a) f u) Q E s:=by
 obtain ⟨mA,O,r,wi,_,ho⟩:=zef I.hok e
 have hz:(fs.map (·.1)).length ≤ sizeLine:=by rw [List.length_map,sizeLine_eq];omega
 refine zkc I.kIn O c.sa c.po n.zmf c.hd wi hz fun h' O' sb=>h _ ?_
 have hd:∃ o,h'.get? dx=some o:=let ⟨o,_,_,e',_⟩:=O'.ns; ⟨o,e'⟩
 refine I.write (x:=a) (e:=dx) (by rw [e];exact True.intro) (.inr ho) (fun b q hb z=>(sb.2 b hb).trans z) hd ?_
 refine ⟨by rw [zai O.ne];exact ho,?_,O.ne,O'.obj,_,O'.ns,fun g=>?_,fun g hg=>?_⟩
 ·have:=zdq f y fs;omega
 ·show RelO ((putF f y fs).lookup g) (if g=f then some u else mA g)
  rw [zdv]
  by_cases q:g=f
  ·rw [if_pos q,if_pos q];exact ry
  ·rw [if_neg q,if_neg q];exact r g
 ·by_cases q:g=f
  ·rw [q];exact (zdO f y fs).1
  ·refine (zdO f y fs).2 g (wi g fun z=>hg ?_)
   show (if g=f then some u else mA g)=none
   rw [if_neg q];exact z
theorem Inv.made (I:Inv X pins σ H s):Inv X pins σ (upd (upd H s.heap.objs.size (.own (s.heap.objs.size + 1))) (s.heap.objs.size + 1) (.ins C s.heap.objs.size []))
  { s with heap:=(s.heap.push PySem.W.emptyDict).push (PySem.W.instObj C s.heap.objs.size) }:=by
 have e1:(s.heap.push PySem.W.emptyDict).get? s.heap.objs.size=some PySem.W.emptyDict:=Heap.get?_push_size s.heap rfl
 have e2:((s.heap.push PySem.W.emptyDict).push (PySem.W.instObj C s.heap.objs.size)).get? (s.heap.objs.size + 1)=some (PySem.W.instObj C s.heap.objs.size):=by
  have:=Heap.get?_push_size (s.heap.push PySem.W.emptyDict) (o:=PySem.W.instObj C s.heap.objs.size) rfl
  rwa [Heap.size_push] at this
 have e3:(s.heap.push PySem.W.emptyDict).Ns s.heap.objs.size (fun _=>none):=⟨PySem.W.emptyDict,#[],_,e1,rfl,(fun e he=>absurd he (by simp)),fun _=>rfl⟩
 have I1:=I.laid (a:=s.heap.objs.size) (o := .own (s.heap.objs.size + 1)) (h':=s.heap.push PySem.W.emptyDict) (t':=s.toks) (fun b u q=>Heap.get?_push_of_some _ q) (Nat.le_refl _) ⟨_,e1⟩
 refine I1.laid (a:=s.heap.objs.size + 1) (o := .ins C s.heap.objs.size []) (t':=s.toks) (fun b u q=>Heap.get?_push_of_some _ q) (Nat.le_of_eq (Heap.size_push _ _)) ?_
 have ne:s.heap.objs.size ≠ s.heap.objs.size + 1:=Nat.ne_of_lt (Nat.lt_succ_self _)
 refine ⟨by rw [zai ne,zaq],Nat.zero_le _,ne,e2,fun _=>none,(Heap.Ns1.of_empty e3).at fun o q=>Heap.get?_push_of_some _ q,fun _=>True.intro,fun y hy=>absurd rfl hy⟩
theorem zkq {prog:Program} {w:World} {env:Env} {e:Expr} {f:Str} {pos:Pos} {s:Shared} {Q:Value→Shared→Prop} (hb:attributeBase e f env (eval e env)=eval e env)
  (h:wpAny (model prog w) A (eval e env) (fun o s₁=>wpAny (model prog w) A (getAttr o f true) Q E s₁) E s):wpAny (model prog w) A (eval (.Attribute e f pos) env) Q E s :=
 Attribute_any_ h (by rw [arm_eval_Attribute,hb])
end
def tFld (K:PySem.W.Frag) (ta:TE) (f:Str):TE:=fun σ H Q=>ta σ H fun x H1=>∃ a C dx fs v,x = .ref a∧H1 a=some (.ins C dx fs)∧Cls K C∧zdN K C f∧fs.lookup f=some v∧Q v H1
def sFld (K:PySem.W.Frag) (ta tv:TE) (f:Str):TS:=fun D σ H=>tv σ H fun y H1=>ta σ H1 fun x H2=>∃ a C dx fs,x = .ref a∧H2 a=some (.ins C dx fs)∧Cls K C∧zdN K C f∧fs.length < 1000 ∧
 D.nx σ (upd H2 a (.ins C dx (putF f y fs)))
section
variable {X:Cx} {o e value:Expr} {f:Str} {pos pos' tpos:Pos} {ta tv:TE}
theorem ziZ (he:PE X e ta) (hb:attributeBase e f X.env (eval e X.env)=eval e X.env):PE X (.Attribute e f pos) (tFld X.K ta f):=by
 intro pins s σ H Q I h
 refine zkq hb (thn (he pins s σ H _ I h) fun u s1 ⟨x,H1,I1,rx,a,C,dx,fs,v,ex,ea,c,n,l,q⟩=>?_)
 subst ex
 obtain rfl:u=Value.ref a:=rx
 exact zgr I1 ea c n l fun u' s2 I2 ru=>⟨v,H1,I2,ru,q⟩
theorem zlN (ha:PE X o ta) (hv:PE X value tv) (hs:swapsWith value (some (.Attribute o f pos')) pos.line X.env=pure false):PS X (.Assign [.Attribute o f pos'] value pos) (sFld X.K ta tv f):=by
 intro pins s σ H D I h
 refine plainObj_wpAny_Assign_Attribute (thn (hv pins s σ H _ I h) fun u s1 ⟨y,H1,I1,ry,q⟩=>thn (ha pins s1 σ H1 _ I1 q) fun ov s2 ⟨x,H2,I2,rx,a,C,dx,fs,ex,ea,c,n,l,q2⟩=>?_) hs
 subst ex
 obtain rfl:ov=Value.ref a:=rx
 exact zgo I2 ea c n l ry fun s3 I3=>⟨σ,_,I3,q2⟩
end
section
variable {X:Cx} {pins:List (Addr × Obj)} {σ:St} {H:Hp} {s:Shared} {A:Around} {E:Value→Shared→Prop} {Q:Value→Shared→Prop} {c:Value} {b:Bool}
inductive TyOf (K:PySem.W.Frag) (H:Hp):V→Value→Prop where
 | non:TyOf K H .non (.type "NoneType")
 | bl (x:Bool):TyOf K H (.bl x) (.type "bool")
 | int (i:Int):TyOf K H (.int i) (.type "int")
 | str (x:Str):TyOf K H (.str x) (.type "str")
 | flt (x:UInt64):TyOf K H (.flt x) (.type "float")
 | lst {a:Addr} {xs:List V} (e:H a=some (.lst xs)):TyOf K H (.ref a) (.type "list")
 | frz {a:Addr} {o:Obj} {xs:List V} (e:H a=some (.frz o (.lst xs))):TyOf K H (.ref a) (.type "list")
 | tup {a:Addr} {xs:List V} (e:H a=some (.tup xs)):TyOf K H (.ref a) (.type "tuple")
 | dK {a:Addr} {kvs:List (Key × V)} (e:H a=some (.dK kvs)):TyOf K H (.ref a) (.type "dict")
 | dT {a:Addr} {kvs:List (List Key × V)} (e:H a=some (.dT kvs)):TyOf K H (.ref a) (.type "dict")
 | ins {a C dx:Addr} {fs:List (Str × V)} (e:H a=some (.ins C dx fs)) (cl:Cls K C) (ha:PySem.W.findIn K (.ref C) "__class__" = some (some (.builtin "object.__class__")))
   (hn:PySem.W.specialIn K (.builtin "object.__class__") "__get__" = some (some (.builtin "getset_descriptor.__get__"))) (htk:PySem.W.takesIn K (.builtin "object.__class__")=some true)
   (hm:PySem.W.mroIn K C (.type "object")=some true):TyOf K H (.ref a) (.ref C)
theorem zhv {x:V} {u t:Value} (I:Inv X pins σ H s) (rx:RelV x u) (ty:TyOf X.K H x t) (e:PySem.W.kitOne X.K t c=some b) (h:∀ tk,Q (.bool b) { s with toks:=tk }) :
  wpAny (model X.prog X.w) A (call (.builtin "isinstance") [u,c]) Q E s:=by
 cases ty with
 | non=>cases (show u=Value.none from rx);exact PySem.W.kia_one PySem.W.kitx_none I.kIn True.intro e (fun z=>nomatch z) h
 | bl y=>cases (show u=Value.bool y from rx);exact PySem.W.kia_one PySem.W.kitx_bool I.kIn True.intro e (fun z=>nomatch z) h
 | int i=>obtain ⟨t,q⟩:=(show ∃ t,u=Value.int i t from rx);cases q;exact PySem.W.kia_one PySem.W.kitx_int I.kIn True.intro e (fun z=>nomatch z) h
 | str y=>obtain ⟨t,q⟩:=(show ∃ t,u=Value.str y t from rx);cases q;exact PySem.W.kia_one PySem.W.kitx_str I.kIn True.intro e (fun z=>nomatch z) h
 | flt y=>obtain ⟨t,q⟩:=(show ∃ t,u=Value.float y t from rx);cases q;exact PySem.W.kia_one PySem.W.kitx_float I.kIn True.intro e (fun z=>nomatch z) h
 | @lst a xs ea =>
  cases (show u=Value.ref a from rx)
  obtain ⟨_,_,n,_,h1⟩:=(show zbS X.prog X.w H s.heap a (.lst xs) from I.hok a _ ea)
  exact PySem.W.kia_one PySem.W.kitx_list I.kIn ⟨_,h1,rfl⟩ e (fun z=>nomatch z) h
 | @frz a ob xs ea =>
  cases (show u=Value.ref a from rx)
  obtain ⟨_,_,_,n,_,h1⟩:=(show zbS X.prog X.w H s.heap a (.frz ob (.lst xs)) from I.hok a _ ea)
  exact PySem.W.kia_one PySem.W.kitx_list I.kIn ⟨_,h1,rfl⟩ e (fun z=>nomatch z) h
 | @tup a xs ea =>
  cases (show u=Value.ref a from rx)
  obtain ⟨_,_,_,p⟩:=(show zbS X.prog X.w H s.heap a (.tup xs) from I.hok a _ ea)
  obtain ⟨o,h1,h2,_⟩:=p
  exact PySem.W.kia_one PySem.W.kitx_tuple I.kIn ⟨o,h1,h2⟩ e (fun z=>nomatch z) h
 | @dK a kvs ea =>
  cases (show u=Value.ref a from rx)
  obtain ⟨_,_,vs,_,p⟩:=(show zbS X.prog X.w H s.heap a (.dK kvs) from I.hok a _ ea)
  obtain ⟨o,es,ep,h1,h2,_⟩:=p
  exact PySem.W.kia_one PySem.W.kitx_dict I.kIn ⟨o,h1,h2.1⟩ e (fun z=>nomatch z) h
 | @dT a kvs ea =>
  cases (show u=Value.ref a from rx)
  obtain ⟨_,_,xs,_,o,es,ep,h1,h2,_⟩:=(show zbS X.prog X.w H s.heap a (.dT kvs) from I.hok a _ ea)
  exact PySem.W.kia_one PySem.W.kitx_dict I.kIn ⟨o,h1,h2.1⟩ e (fun z=>nomatch z) h
 | @ins a C dx fs ea cl ha hn htk hm =>
  cases (show u=Value.ref a from rx)
  obtain ⟨mA,O,_⟩:=zef I.hok ea
  obtain ⟨od,J,_⟩:=O.look
  exact PySem.W.kia_one (PySem.W.kitx_own (cl.get _) cl.hd ha hn htk hm) I.kIn J e (fun z=>nomatch z) h
end
end L2
namespace L2
open PySem PySem.Spec PyProof.Rows
structure Room (k:Nat) (A:Around):Prop where
 hd:A.handled=none
 dp:A.depth + 3 * k + 5 < recursionLimit
 un:A.units + 16 * k + 200 < cLine
theorem Room.mono {j k:Nat} {A:Around} (r:Room k A) (h:j ≤ k):Room j A:=⟨r.hd,by have:=r.dp;omega,by have:=r.un;omega⟩
theorem Room.deeper {k:Nat} {A:Around} (r:Room (k + 1) A) (env:Env):Room k (A.deeper env) :=
 ⟨r.hd,by have:=r.dp;show A.depth + 1 + 3 * k + 5 < _;omega,by have:=r.un;show A.units + 3 + 16 * k + 200 < _;omega⟩
theorem zgp {A:Around} {C:Addr} {us:List Value} {kw:List (Str × Value)}:(A.under (.builtin "type.__call__" ⟨.ref C :: us,kw⟩)).depth=A.depth + 1:=by
 first | rfl | simp [Around.under,Code.weight,Code.isCreation,Code.isGuard,Code.isCaller,Code.frames,Code.isFrame,guardIds]
theorem zgl {A:Around} {C:Addr} {us:List Value} {kw:List (Str × Value)}:(A.under (.builtin "type.__call__" ⟨.ref C :: us,kw⟩)).units=A.units + 1:=by
 first | rfl | simp [Around.under,Code.cUnits,Code.frames,Code.isFrame]
theorem Room.make {k:Nat} {A:Around} (r:Room (k + 1) A) (C:Addr) (us:List Value) (kw:List (Str × Value)):Room k (A.under (.builtin "type.__call__" ⟨.ref C :: us,kw⟩)) :=
 ⟨r.hd,by have:=r.dp;rw [zgp];omega,by have:=r.un;rw [zgl];omega⟩
theorem Room.depth {k:Nat} {A:Around} (r:Room k A):A.depth < recursionLimit:=by have:=r.dp;omega
theorem Room.units {k:Nat} {A:Around} (r:Room k A):A.units + 64 < cLine:=by have:=r.un;omega
def tNil:TA:=fun _ H Q=>Q [] H
def zl7 (ta:TE) (tr:TA):TA:=fun σ H Q=>ta σ H fun x H1=>tr σ H1 fun xs H2=>Q (x :: xs) H2
section
variable {X:Cx} {e:Expr} {es:List Expr} {te:TE} {t:TA} {pos:Pos}
theorem ze7:PA X [] tNil:=fun _ _ _ _ H Q I h=>Calls.spliced_nil ⟨[],H,I, .nil,h⟩
theorem zdy (ha:PE X e te) (hr:PA X es t) (hs:starEach (e :: es) X.env=(false,eval e X.env) :: starEach es X.env:=by rfl):PA X (e :: es) (zl7 te t):=by
 intro pos pins s σ H Q I h
 rw [hs]
 show wpAny _ _ (spliced ((false,eval e X.env) :: backTo pos (starEach es X.env))) _ _ s
 refine Calls.spliced_cons (thn (ha pins s σ H _ I h) fun u s1 ⟨x,H1,I1,r1,q1⟩=>?_)
 exact thn (hr pos pins s1 σ H1 _ I1 q1) fun us s2 ⟨xs,H2,I2,r2,q2⟩=>⟨x :: xs,H2,I2, .cons r1 r2,q2⟩
def tTup (t:TA):TE:=fun σ H Q=>t σ H fun xs H1=>xs.length ≤ sizeLine∧∀ p,H1 p=none→Q (.ref p) (upd H1 p (.tup xs))
def tLst (t:TA):TE:=fun σ H Q=>t σ H fun xs H1=>xs.length ≤ sizeLine∧∀ p,H1 p=none→Q (.ref p) (upd H1 p (.lst xs))
theorem zlF {x1} (h:PA X es t):PE X (.Tuple es x1 pos) (tTup t):=by
 intro pins s σ H Q I hq
 refine wpAny_Tuple_spliced (thn (h pos pins s σ H _ I hq) fun us s1 ⟨xs,H1,I1,r,z,q⟩=>⟨by rw [← r.length];exact z,?_⟩)
 have hf:H1 s1.heap.objs.size=none:=I1.hok.fresh (Nat.le_refl _)
 refine ⟨.ref s1.heap.objs.size,upd H1 s1.heap.objs.size (.tup xs),I1.laid (t':=s1.toks) (fun b u e=>Heap.get?_push_of_some _ e) (Nat.le_refl _) ?_,rfl,q _ hf⟩
 exact ⟨z,us,r,⟨_,Heap.get?_push_size _ rfl,rfl,_,rfl⟩⟩
theorem zjb (h:PA X es t):PE X (.List es pos) (tLst t):=by
 intro pins s σ H Q I hq
 refine wpAny_List_spliced (thn (h pos pins s σ H _ I hq) fun us s1 ⟨xs,H1,I1,r,z,q⟩=>⟨by rw [← r.length];exact z,?_⟩)
 have hf:H1 s1.heap.objs.size=none:=I1.hok.fresh (Nat.le_refl _)
 refine ⟨.ref s1.heap.objs.size,upd H1 s1.heap.objs.size (.lst xs),I1.laid (t':=s1.toks) (fun b u e=>Heap.get?_push_of_some _ e) (Nat.le_refl _) ?_,rfl,q _ hf⟩
 exact ⟨z,us,0,r,Heap.get?_push_size _ rfl⟩
end
abbrev Sp:=List V→Hp→VK→XK→Prop
abbrev CXT:=List Env→Hp→Shared→XK→Value→Shared→Prop
structure Env0 (P:Program) (w:World) (K:PySem.W.Frag) (mg:Str→Option Value) (base:Heap) (A:Around) (outer:List Env) (s:Shared) (H:Hp):Prop where
 frames:A.frames=some outer
 mod:Mod K mg base
 bs:∀ b o,base.get? b=some o→s.heap.get? b=some o∧H b=none
 bsz:base.objs.size ≤ s.heap.objs.size
 funs:s.heap.FunFrames base outer
 frf:∀ b ∈ frs outer,H b=none
 hok:HOk P w H s.heap
 bare:AllBare s.gens
def CE (outer:List Env) (P:Program) (w:World) (H:Hp) (s:Shared) (Q:VK) (u:Value) (s':Shared):Prop :=
 ∃ v H',s'.os=s.os∧AllBare s'.gens∧Un (frs outer) [] H H' s.heap s'.heap∧HOk P w H' s'.heap∧RelV v u∧Q v H'
def CR (CX:CXT) (outer:List Env) (P:Program) (w:World) (H:Hp) (s:Shared) (Q:VK) (E:XK) (r:Result) (s':Shared):Prop :=
 match r with
 | .ok (.ret u)=>CE outer P w H s Q u s'
 | .ok _=>False
 | .error e=>CX outer H s E e s'
structure FnOk (P:Program) (w:World) (K:PySem.W.Frag) (mg:Str→Option Value) (base:Heap) (CX:CXT) (k:Nat) (f:Addr) (fd:FuncData) (ps:List Str) (sp:Sp):Prop where
 len:∀ vs H Q E,sp vs H Q E→vs.length=ps.length
 run:∀ (A:Around) (outer:List Env) (s:Shared) (H:Hp) (args:Args) (us:List Value) (vs:List V) (Q:VK) (E:XK),Room k A→Env0 P w K mg base A outer s H→BindsTo s fd args (ps.zip us)→Vals vs us→sp vs H Q E →
  codeAny (model P w) A (.call (.ref f) args) (CR CX outer P w H s Q E) s
theorem FnOk.mono {P:Program} {w:World} {K:PySem.W.Frag} {mg:Str→Option Value} {base:Heap} {CX:CXT} {j k:Nat} {f:Addr} {fd:FuncData} {ps:List Str} {sp:Sp} (F:FnOk P w K mg base CX j f fd ps sp) (h:j ≤ k) :
  FnOk P w K mg base CX k f fd ps sp:=⟨F.len,fun A outer s H args us vs Q E hr=>F.run A outer s H args us vs Q E (hr.mono h)⟩
theorem FnOk.imp {P:Program} {w:World} {K:PySem.W.Frag} {mg:Str→Option Value} {base:Heap} {CX:CXT} {k:Nat} {f:Addr} {fd:FuncData} {ps:List Str} {sp sp':Sp} (F:FnOk P w K mg base CX k f fd ps sp)
  (h:∀ vs H Q E,sp' vs H Q E→sp vs H Q E):FnOk P w K mg base CX k f fd ps sp' :=
 ⟨fun vs H Q E q=>F.len vs H Q E (h _ _ _ _ q),fun A outer s H args us vs Q E hr he hb hv hs=>F.run A outer s H args us vs Q E hr he hb hv (h _ _ _ _ hs)⟩
theorem Env0.make {P:Program} {w:World} {K:PySem.W.Frag} {mg:Str→Option Value} {base:Heap} {A:Around} {outer:List Env} {s:Shared} {H:Hp} (e:Env0 P w K mg base A outer s H) (C:Addr) (us:List Value) (kw:List (Str × Value)) :
  Env0 P w K mg base (A.under (.builtin "type.__call__" ⟨.ref C :: us,kw⟩)) outer s H:=⟨by first | exact e.frames | (simpa [Around.under,Code.envs,Code.isFrame,pushEnvs] using e.frames),e.mod,e.bs,e.bsz,e.funs,e.frf,e.hok,e.bare⟩
section
variable {X:Cx} {pins:List (Addr × Obj)} {σ:St} {H:Hp} {s s':Shared}
theorem Inv.env0 (I:Inv X pins σ H s):Env0 X.prog X.w X.K X.mg X.base X.A X.stack s H :=
 ⟨I.ok.frames,I.ok.mod,I.bs,Nat.le_trans I.ok.bsz I.sz,I.stack,I.zfB,I.hok,I.bare⟩
theorem Inv.after {Q:VK} {u:Value} (I:Inv X pins σ H s) (h:CE X.stack X.prog X.w H s Q u s'):EP X pins σ Q u s':=by
 obtain ⟨v,H',os,bare,un,hok,r,q⟩:=h
 obtain ⟨hh,g,d,t,os'⟩:=s'
 obtain rfl:os'=s.os:=os
 exact ⟨v,H',I.call (h':=hh) (g':=g) (d':=d) (t':=t) (ch:=[]) un hok bare (fun b z=>absurd z (by simp)),r,q⟩
end
def zmD (C:Addr) (sp:Sp) (dvs:List V) (E:XK) (t:TA):TE:=fun σ H Q=>t σ H fun vs H1=>∀ x dx,H1 x=none→H1 dx=none→dx ≠ x →
 sp (.ref x :: (vs ++ dvs)) (upd (upd H1 dx (.own x)) x (.ins C dx [])) (fun v H2=>v = .non∧Q (.ref x) H2) E
def Binds (K:PySem.W.Frag) (fd:FuncData) (ps:List Str) (ds:List Value):Prop :=
 ∀ (s:Shared) (us:List Value),K.In s.heap→(us ++ ds).length=ps.length→BindsTo s fd ⟨us,[]⟩ (ps.zip (us ++ ds))
theorem Binds.all {K:PySem.W.Frag} {fd:FuncData} {ps:List Str} (h:∀ us:List Value,us.length=ps.length→bindArgs fd ⟨us,[]⟩ = pure (ps.zip us)):Binds K fd ps []:=fun s us _ hl=>by
 rw [List.append_nil] at hl ⊢
 exact .of_eq (h us hl)
def Passes (CX:CXT) (X:Cx) (E:XK):Prop:=∀ (pins:List (Addr × Obj)) (σ:St) (H:Hp) (s:Shared) (e:Value) (s':Shared),Inv X pins σ H s→CX X.stack H s E e s'→X.xe e s'
section
variable {X:Cx} {CX:CXT} {k:Nat} {f C:Addr} {fd:FuncData} {ps:List Str} {sp:Sp} {dvs:List V} {ds:List Value} {E:XK} {x m:Str} {p pos apos:Pos} {e o:Expr} {es:List Expr} {ta:TE} {t:TA}
structure Mk (K:PySem.W.Frag) (C f:Addr):Prop where
 makes:PySem.W.makesIn K C=true
 init:PySem.W.findIn K (.ref C) "__init__" = some (some (.ref f))
 fn:PySem.W.isFn K (.ref f)=true
 kp:PySem.W.keepIn K (.ref C)=true
theorem zig {pins:List (Addr × Obj)} {σ:St} {H:Hp} {s:Shared} {Q:VK} {us:List Value} {vs:List V} (M:Mk X.K C f) (F:FnOk X.prog X.w X.K X.mg X.base CX k f fd ps sp) (hr:Room (k + 1) X.A) (hb:Binds X.K fd ps ds) (hd:Vals dvs ds)
  (hx:Passes CX X E) (I:Inv X pins σ H s) (r:Vals vs us)
  (h:∀ x dx,H x=none→H dx=none→dx ≠ x→sp (.ref x :: (vs ++ dvs)) (upd (upd H dx (.own x)) x (.ins C dx [])) (fun v H2=>v = .non∧Q (.ref x) H2) E) :
  wpAny (model X.prog X.w) X.A (call (.ref C) us) (EP X pins σ Q) X.xe s:=by
 have hq:=h (s.heap.objs.size + 1) s.heap.objs.size (I.hok.fresh (Nat.le_succ _)) (I.hok.fresh (Nat.le_refl _)) (Nat.ne_of_lt (Nat.lt_succ_self _))
 have I2:=Inv.made (C:=C) I
 have r2:Vals (V.ref (s.heap.objs.size + 1) :: (vs ++ dvs)) (Value.ref (s.heap.objs.size + 1) :: (us ++ ds)) := .cons rfl (r.append hd)
 have hl:(Value.ref (s.heap.objs.size + 1) :: us ++ ds).length=ps.length:=by
  have e:=r2.length
  rw [F.len _ _ _ _ hq] at e
  exact e.symm
 refine wpAny_call (ziy (f:=f) I.kIn M.makes M.init (beq_iff_eq.mp M.fn) (codeAny_mono (F.run _ X.stack _ _ ⟨Value.ref (s.heap.objs.size + 1) :: us,[]⟩ (Value.ref (s.heap.objs.size + 1) :: (us ++ ds)) _ _ E (hr.make C us [])
  (I2.env0.make C us []) (hb _ (Value.ref (s.heap.objs.size + 1) :: us) I2.kIn hl) r2 hq) fun r s' hq'=>?_))
 cases r with
 | error e=>exact hx pins σ _ _ e s' I2 hq'
 | ok fl =>
  cases fl with
  | ret u =>
   obtain ⟨v,H',I3,rv,ev,q3⟩:=I2.after hq'
   subst ev
   exact ⟨rv,⟨V.ref (s.heap.objs.size + 1),H',I3,rfl,q3⟩⟩
  | next=>exact False.elim hq'
  | brk=>exact False.elim hq'
  | cont=>exact False.elim hq'
theorem zkl (M:Mk X.K C f) (F:FnOk X.prog X.w X.K X.mg X.base CX k f fd ps sp) (hr:Room (k + 1) X.A) (hg:Gl X x) (hm:X.mg x=some (.ref C)) (hb:Binds X.K fd ps ds) (hd:Vals dvs ds) (hx:Passes CX X E)
  (ha:PA X (e :: es) t) (hdb:(x == ("__debug__" : Str))=false:=by decide) (he:starEach (e :: es) X.env=(false,eval e X.env) :: starEach es X.env:=by rfl) (hpl:(backTo pos (starEach es X.env)).any (·.1)=false:=by rfl) :
  PE X (.Call (.Name x p) (e :: es) [] pos) (zmD C sp dvs E t):=by
 intro pins s σ H Q I h
 refine wpAny_Call_Name_kw (zg8 I hg hm ?_ hdb)
 refine PySem.W.callWith_K (h₀:=X.base) I.ok.mod.kin M.kp (thn (ha pos pins s σ H _ I h) fun us s1 ⟨vs,H1,I1,r,q⟩=>⟨I1.kIn,?_⟩) he hpl
 exact zig M F hr hb hd hx I1 r q
end
section
variable {X:Cx} {CX:CXT} {k:Nat} {f C:Addr} {fd:FuncData} {ps ks:List Str} {sp:Sp} {E:XK} {x m:Str} {p pos apos kpos:Pos} {e o:Expr} {es:List Expr} {kws:List Keyword} {te ta:TE} {t tk:TA} {nm:Option Str}
structure zmT (K:PySem.W.Frag) (fd:FuncData) (ps ks:List Str) (g:List Value→List Value→List Value) (gV:List V→List V→List V):Prop where
 to:∀ (s:Shared) (us ws:List Value),K.In s.heap→(g us ws).length=ps.length→BindsTo s fd ⟨us,ks.zip ws⟩ (ps.zip (g us ws))
 rel:∀ {vs:List V} {us:List Value} {zs:List V} {ws:List Value},Vals vs us→Vals zs ws→Vals (gV vs zs) (g us ws)
variable {g:List Value→List Value→List Value} {gV:List V→List V→List V}
end
structure zaw (N P:List Str) (sc:Scope):Prop where
 kind:sc.kind = .function
 co:sc.isCoroutine=false
 gen:sc.isGenerator=false
 nd:N.Nodup
 pre:N.take P.length=P
 par:∀ x ∈ P,sc.names.lookup x=some .local∨sc.names.lookup x=some .cell
 nofree:∀ y ∈ sc.names,y.2 ≠ .free
theorem zeT {kindOf:Str→Option NameKind} {x:Str}:∀ {binds:List (Str × Value)} {m:Str→Option Value},(∀ v,(x,v) ∉ binds)→bindL kindOf binds m x=m x
 | [],_,_=>rfl
 | (n,v) :: r,m,h=>by
  unfold bindL
  rw [zeT fun w hw=>h w (List.mem_cons_of_mem _ hw)]
  split
  ·have:x ≠ n:=by rintro rfl;exact h v List.mem_cons_self
   simp [this]
  ·rfl
theorem zeD {kindOf:Str→Option NameKind} {x:Str}:∀ {binds:List (Str × Value)} {m:Str→Option Value},(∀ v,(x,v) ∉ binds)→bindC kindOf binds m x=m x
 | [],_,_=>rfl
 | (n,v) :: r,m,h=>by
  unfold bindC
  rw [zeD fun w hw=>h w (List.mem_cons_of_mem _ hw)]
  split
  ·rfl
  ·have:x ≠ n:=by rintro rfl;exact h v List.mem_cons_self
   simp [this]
theorem zeF {kindOf:Str→Option NameKind} {x:Str} {v:Value}:∀ {P:List Str} {vs:List Value} {i:Nat} {m:Str→Option Value},P.Nodup→P[i]? = some x→vs[i]? = some v→kindOf x=some .local →
  bindL kindOf (P.zip vs) m x=some v
 | [],_,_,_,_,h,_,_=>by simp at h
 | _ :: _,[],_,_,_,_,h,_=>by simp at h
 | p :: P,w :: vs,0,m,nd,h1,h2,hk=>by
  simp at h1 h2;subst h1;subst h2
  show bindL kindOf ((p,w) :: P.zip vs) m p=_
  unfold bindL
  rw [zeT fun v hv=>(List.nodup_cons.mp nd).1 (List.of_mem_zip hv).1,if_pos hk]
  simp
 | p :: P,w :: vs,i + 1,m,nd,h1,h2,hk=>by
  show bindL kindOf ((p,w) :: P.zip vs) m x=_
  unfold bindL
  exact zeF (i:=i) (List.nodup_cons.mp nd).2 (by simpa using h1) (by simpa using h2) hk
theorem zfb {kindOf:Str→Option NameKind} {x:Str} {v:Value}:∀ {P:List Str} {vs:List Value} {i:Nat} {m:Str→Option Value},P.Nodup→P[i]? = some x→vs[i]? = some v→kindOf x ≠ some .local →
  bindC kindOf (P.zip vs) m x=some v
 | [],_,_,_,_,h,_,_=>by simp at h
 | _ :: _,[],_,_,_,_,h,_=>by simp at h
 | p :: P,w :: vs,0,m,nd,h1,h2,hk=>by
  simp at h1 h2;subst h1;subst h2
  show bindC kindOf ((p,w) :: P.zip vs) m p=_
  unfold bindC
  rw [zeD fun v hv=>(List.nodup_cons.mp nd).1 (List.of_mem_zip hv).1,if_neg hk]
  simp
 | p :: P,w :: vs,i + 1,m,nd,h1,h2,hk=>by
  show bindC kindOf ((p,w) :: P.zip vs) m x=_
  unfold bindC
  exact zfb (i:=i) (List.nodup_cons.mp nd).2 (by simpa using h1) (by simpa using h2) hk
def start (N:List Str) (vs:List V):St:=vs.map some ++ List.replicate (N.length - vs.length) none
def cxOf (CX:CXT) (P:Program) (w:World) (K:PySem.W.Frag) (mg:Str→Option Value) (base:Heap) (N:List Str) (qual:Str) (scope:Scope) (f:Addr) (cd:Value) (A:Around) (outer:List Env) (s:Shared) (H:Hp) (E:XK):Cx where
 prog:=P
 w:=w
 K:=K
 mg:=mg
 base:=base
 A:=A.deeper (envOfC qual scope s.heap.objs.size f cd)
 N:=N
 s₀:=s
 H₀:=H
 env:=envOfC qual scope s.heap.objs.size f cd
 outer:=outer
 stack:=envOfC qual scope s.heap.objs.size f cd :: outer
 ex:=[]
 calm:=true
 fn:=fun _=>true
 pn:=[]
 xe:=fun e s'=>wpAny (model P w) (A.deeper (envOfC qual scope s.heap.objs.size f cd)) (leaving (envOfC qual scope s.heap.objs.size f cd) e) (fun _ s''=>CX outer H s E e s'') (fun e' s''=>CX outer H s E e' s'') s'
theorem zfM {sc:Scope} {n:Nat} {x:Str} (h:sc.names.lookup x=some .cell):∃ c,(cellsFrom n sc.names []).lookup x=some c:=by
 have q:=PySem.W.cellsFrom_some sc.names n [] (.inl h)
 exact Option.isSome_iff_exists.mp q
theorem zeN {CX:CXT} {P:Program} {w:World} {K:PySem.W.Frag} {mg:Str→Option Value} {base:Heap} {N ps:List Str} {qual:Str} {scope:Scope} {f:Addr} {cd:Value} {A:Around} {outer:List Env} {s s1:Shared} {H:Hp} {E:XK} {us:List Value} {vs:List V}
  (S:zaw N ps scope) (hd:A.handled=none) (e0:Env0 P w K mg base A outer s H) (hl:vs.length=ps.length) (r:Vals vs us)
  (x:InCallC s s.heap.objs.size (bindL (envOfC qual scope s.heap.objs.size f cd).kindOf (ps.zip us) fun _=>none) (cellsFrom (s.heap.objs.size + 1) scope.names []) (bindC (envOfC qual scope s.heap.objs.size f cd).kindOf (ps.zip us) fun _=>none) s1) :
  Inv (cxOf CX P w K mg base N qual scope f cd A outer s H E) [] (start N vs) H s1:=by
 have hpl:ps.length ≤ N.length:=by have:=congrArg List.length S.pre;rw [List.length_take] at this;omega
 obtain ⟨h1,tk,rfl,hk⟩:=x.done
 have noA:∀ b:Addr,b ∉ (cxOf CX P w K mg base N qual scope f cd A outer s H E).ex:=fun b z=>absurd (show b ∈ ([] : List Addr) from z) (by simp)
 refine ⟨⟨e0.mod,S.kind,rfl,rfl,Nat.le_refl _,fun y z c h1 h2=>?_,fun y hy=>?_,fun y c _ h=>?_,fun _=>hd,Around.frames_deeper e0.frames, .inr ⟨rfl,rfl⟩,fun b z=>absurd z (noA b),e0.bs,e0.bsz,fun b _ _=>noA b,fun b z=>absurd z (noA b),e0.funs,e0.frf⟩,
  rfl,e0.bare,Un.kept hk,⟨_,x.toInCall.ns,fun i y v h1 h2 h3=>?_⟩,fun y c h=>⟨_,x.cell y c h⟩,e0.hok.fresh (Nat.le_refl _),fun y c h=>?_,fun p hp=>absurd (show p ∈ ([] : List (Addr × Obj)) from hp) (by simp),e0.hok.kept hk,?_⟩
 ·exact name_of_addr x.apart (PySem.mem_of_lookup h1) (PySem.mem_of_lookup h2)
 ·have hy:scope.names.lookup y=some .cell∨scope.names.lookup y=some .free:=hy
  rcases hy with hy | hy
  ·exact zfM hy
  ·exact absurd rfl (S.nofree _ (PySem.mem_of_lookup hy))
 ·exact Nat.le_of_lt (x.above y c (PySem.mem_of_lookup h))
 ·have hi:i < vs.length:=by
   unfold start at h2
   by_cases hi:i < vs.length
   ·exact hi
   ·rw [List.getElem?_append_right (by simpa using hi)] at h2
    rw [List.getElem?_replicate] at h2
    split at h2 <;> cases h2
  have ha:vs[i]? = some v:=by
   unfold start at h2
   rw [List.getElem?_append_left (by simpa using hi),List.getElem?_map] at h2
   cases e:vs[i]? with
   | none=>rw [e] at h2;cases h2
   | some a=>rw [e] at h2;cases h2;rfl
  obtain ⟨u,hu,rv⟩:=r.get ha
  have hp:ps[i]? = some y:=by
   rw [← S.pre,List.getElem?_take_of_lt (by omega)];exact h1
  have ndP:ps.Nodup:=by rw [← S.pre];exact S.nd.sublist (List.take_sublist _ _)
  refine ⟨u,rv,?_⟩
  rcases S.par y (List.mem_of_getElem? hp) with k | k
  ·exact .inl ⟨k,zeF ndP hp hu k⟩
  ·obtain ⟨c,e⟩:=zfM (n:=s.heap.objs.size + 1) k
   refine .inr ⟨.inl k,c,e,?_⟩
   have q:=x.cell y c e
   rw [zfb ndP hp hu (by show scope.names.lookup y ≠ _;rw [k];decide)] at q
   exact q
 ·exact e0.hok.fresh (Nat.le_of_lt (x.above y c (PySem.mem_of_lookup h)))
 ·unfold start
  show _=N.length
  rw [List.length_append,List.length_map,List.length_replicate]
  omega
theorem ziI {CX:CXT} {P:Program} {w:World} {K:PySem.W.Frag} {mg:Str→Option Value} {base:Heap} {k:Nat} {f:Addr} {name qual:Str} {params:Arguments} {body:List Stmt} {scope:Scope} {dV kV doc pm cdv ct oc:Value} {an od:Option Addr}
  {osl:Array (Option Value)} {N ps:List Str} {sp:Sp} (lk:K.lookup f=some ⟨oc,od, .func (PySem.W.fnOf name qual params body scope dV kV doc pm an cdv ct),osl⟩) (hcd:PySem.W.codeIn K cdv qual=true) (S:zaw N ps scope)
  (len:∀ vs H Q E,sp vs H Q E→vs.length=ps.length)
  (hbody:∀ (A:Around) (outer:List Env) (s:Shared) (H:Hp) (vs:List V) (Q:VK) (E:XK),Room k (A.deeper (envOfC qual scope s.heap.objs.size f cdv))→sp vs H Q E →
   ∃ t,PSs (cxOf CX P w K mg base N qual scope f cdv A outer s H E) body t∧t { nx:=fun _ H'=>Q .non H',rt:=Q } (start N vs) H) :
  FnOk P w K mg base CX (k + 1) f (PySem.W.fnOf name qual params body scope dV kV doc pm an cdv ct) ps sp:=by
 refine ⟨len,fun A outer s H args us vs Q E hr e0 hb r hsp=>?_⟩
 have hl:=len _ _ _ _ hsp
 have KX:K.In s.heap:=e0.mod.kin.keeps fun b o e=>(e0.bs b o e).1
 have lim:s.heap.NoLimit:=e0.mod.nolimit.keeps fun b o e=>(e0.bs b o e).1
 have hkind:∀ y ∈ ps.zip us,scope.names.lookup y.1=some .local∨(scope.names.lookup y.1=some .cell∧((cellsFrom (s.heap.objs.size + 1) scope.names []).lookup y.1).isSome=true):=fun ⟨n,v⟩ hy=>by
  rcases S.par n (List.of_mem_zip hy).1 with q | q
  ·exact .inl q
  ·exact .inr ⟨q,PySem.W.cellsFrom_some _ _ _ (.inl q)⟩
 refine codeAny_call_function hr.depth (KX _ _ lk) rfl S.co S.gen rfl (PySem.W.codeRec_of KX hcd) (hb _ _ _ _ ?_)
 refine wpAny_newFunctionEnv_cells S.kind hkind fun env he s1 x=>?_
 subst he
 refine ⟨lim.keeps x.toInCall.keep,codeAny_func ?_⟩
 obtain ⟨t,ht,hq⟩:=hbody A outer s H vs Q E (hr.deeper _) hsp
 have I:Inv (cxOf CX P w K mg base N qual scope f cdv A outer s H E) [] (start N vs) H s1:=zeN S hr.hd e0 hl r x
 refine wpAny_mono (ht [] s1 (start N vs) H _ I hq) (fun fl s' hs=>?_) fun e s' hs=>hs
 have fin:∀ {σ':St} {H':Hp} {v:V} {u:Value},Inv (cxOf CX P w K mg base N qual scope f cdv A outer s H E) [] σ' H' s'→RelV v u→Q v H'→CE outer P w H s Q u s' :=
  fun {σ' H' v u} J rv q=>⟨v,H',J.os,J.bare,J.base,J.hok,rv,q⟩
 cases fl with
 | ret u =>
  obtain ⟨v,σ',H',J,rv,q⟩:=hs
  exact fin J rv q
 | next =>
  obtain ⟨σ',H',J,q⟩:=hs
  exact fin (v:=V.non) (u:=Value.none) J rfl q
 | brk =>
  obtain ⟨_,_,_,q⟩:=hs
  exact False.elim q
 | cont =>
  obtain ⟨_,_,_,q⟩:=hs
  exact False.elim q
end L2
namespace L2
open PySem PySem.Spec PyProof.Rows
section
variable {X:Cx} {x:Str} {p pos:Pos} {e:Expr} {es:List Expr} {t:TA} {id T:String} {r:List V→Hp→VK→Prop}
def tCB (r:List V→Hp→VK→Prop) (t:TA):TE:=fun σ H Q=>t σ H fun vs H1=>r vs H1 Q
theorem zhY (hc:zcI X (.builtin id) r) (hg:Gl X x) (hm:X.mg x=none) (hv:bootBuiltins x=some (.builtin id)) (ha:PA X (e :: es) t) (hn:x ≠ "__name__":=by decide) (hdb:(x == ("__debug__" : Str))=false:=by decide)
  (he:starEach (e :: es) X.env=(false,eval e X.env) :: starEach es X.env:=by rfl) (hpl:(backTo pos (starEach es X.env)).any (·.1)=false:=by rfl):PE X (.Call (.Name x p) (e :: es) [] pos) (tCB r t):=by
 intro pins s σ H Q I h
 refine wpAny_Call_Name_kw (zdT I hg hm hv ?_ hn hdb)
 exact PyProof.Rows.callWith_builtin1 (thn (ha pos pins s σ H _ I h) fun us s1 ⟨vs,H1,I1,r1,q1⟩=>hc pins s1 σ H1 vs us Q I1 r1 q1) he hpl
theorem zhk (hc:zcI X (.type T) r) (hg:Gl X x) (hm:X.mg x=none) (hv:bootBuiltins x=some (.type T)) (ha:PA X (e :: es) t) (hn:x ≠ "__name__":=by decide) (hdb:(x == ("__debug__" : Str))=false:=by decide)
  (he:starEach (e :: es) X.env=(false,eval e X.env) :: starEach es X.env:=by rfl) (hpl:(backTo pos (starEach es X.env)).any (·.1)=false:=by rfl):PE X (.Call (.Name x p) (e :: es) [] pos) (tCB r t):=by
 intro pins s σ H Q I h
 refine wpAny_Call_Name_kw (zdT I hg hm hv ?_ hn hdb)
 exact PyProof.Rows.callWith_type1 (thn (ha pos pins s σ H _ I h) fun us s1 ⟨vs,H1,I1,r1,q1⟩=>hc pins s1 σ H1 vs us Q I1 r1 q1) he hpl
end
end L2
namespace HT
open PySem PyProof.Rows
section
open PySem.SeqAt
open PySem.AutoSeq1 (wpAny_loadPart')
open PySem.MeetsSeq PySem.MeetsSeq2 PySem.MeetsSeq3
end
section
variable {prog:Program} {w:World} {A:Around} {E:Value→Shared→Prop} {s:Shared}
theorem zjt {t b:Addr} {vs ws:List Value} {Q:Value→Shared→Prop} (ht:IsTup s.heap t vs.toArray) (hb:IsTup s.heap b ws.toArray) (hv:vs ≠ [])
  (h1:ws=[]→Q (.ref t) s) (h2:ws ≠ []→Q (.ref s.heap.objs.size) { s with heap:=s.heap.push { cls := .type "tuple",data := .seq (vs ++ ws).toArray } })
  (hsz:vs.length + ws.length ≤ sizeLine):wpAny (model prog w) A (binaryOp .Add (.ref t) (.ref b)) Q E s:=by
 obtain ⟨⟨cls,dd,data,sl⟩,ho,hc,n,hd⟩:=id ht
 obtain ⟨⟨cls2,dd2,data2,sl2⟩,ho2,hc2,n2,hd2⟩:=id hb
 simp only at hc hd hc2 hd2
 subst hc hd hc2 hd2
 have e:vs.toArray ++ ws.toArray=(vs ++ ws).toArray:=by simp
 by_cases hw:ws=[]
 ·exact concat_meets ⟨_,ho,rfl⟩ ⟨_,ho2,rfl⟩ noFill_tuple_add seq_tuple_add PySem.F.slot_tuple_add PySem.F.entry_tuple_add (PySem.F.args_tuple_add_2 _ _)
   (tuple_addW1 t b vs.toArray ws.toArray n n2 dd dd2 sl sl2 (by simpa using hv) (by simp [hw])) ⟨ho,ho2,h1 hw⟩
 ·refine concat_meets ⟨_,ho,rfl⟩ ⟨_,ho2,rfl⟩ noFill_tuple_add seq_tuple_add PySem.F.slot_tuple_add PySem.F.entry_tuple_add (PySem.F.args_tuple_add_2 _ _)
   (tuple_addW2 t b vs.toArray ws.toArray n n2 dd dd2 sl sl2 (by simpa using hv) (by simpa using hw) (by rw [List.size_toArray,List.size_toArray];exact hsz)) ⟨ho,ho2,?_⟩
  rw [e]
  exact h2 hw
def sIx (n d:Nat):Option Int→Nat
 | none=>d
 | some v=>if v < 0 then (v + (n:Int)).toNat else min v.toNat n
theorem zfK (n d:Nat):sIx n d none=d:=rfl
theorem zet (n d k:Nat):sIx n d (some (k:Int))=min k n:=by
 show (if (k:Int) < 0 then ((k:Int) + (n:Int)).toNat else min (k:Int).toNat n)=min k n
 rw [if_neg (by omega),Int.toNat_natCast]
theorem zkO (n d:Nat) (hd:d ≤ n) (o:Option Int):sIx n d o ≤ n:=by
 cases o with
 | none=>exact hd
 | some v =>
  show (if v < 0 then (v + (n:Int)).toNat else min v.toNat n) ≤ n
  by_cases hv:v < 0
  ·rw [if_pos hv];omega
  ·rw [if_neg hv];exact Nat.min_le_right _ _
theorem zgX (v:Int) (n d:Nat):(if v < 0 then max (v + (n:Int)) 0 else min v (n:Int))=((sIx n d (some v):Nat):Int):=by
 show (if v < 0 then max (v + (n:Int)) 0 else min v (n:Int))=(((if v < 0 then (v + (n:Int)).toNat else min v.toNat n):Nat):Int)
 by_cases hv:v < 0
 ·simp only [if_pos hv];omega
 ·simp only [if_neg hv];omega
theorem zgd (lo hi:Option Int) (n:Nat):Builtin.Slice.sliceAdjust lo hi 1 (n:Int)=(((sIx n 0 lo:Nat):Int),((sIx n n hi:Nat):Int)):=by
 have h1:¬ ((1:Int) < 0):=by omega
 unfold Builtin.Slice.sliceAdjust
 simp only [h1,if_false]
 refine Prod.ext ?_ ?_
 ·cases lo with
  | none=>rfl
  | some v=>exact zgX v n 0
 ·cases hi with
  | none=>rfl
  | some v=>exact zgX v n n
theorem zgw (i j:Nat):Builtin.Slice.slicePlaces (i:Int) (j:Int) 1=j - i:=by
 unfold Builtin.Slice.slicePlaces
 have h1:(1:Int) > 0:=by omega
 simp only [h1,if_true,Int.ediv_one]
 split <;> omega
theorem zd2 {v:Value} {o:Option Int} {Q:Option Int→Shared→Prop} (p:IsPart v o) (h:Q o s):wpAny (model prog w) A (Builtin.Slice.slicePartIndex v) Q E s:=by
 cases p with
 | none=>exact slicePart_none h
 | int i t=>exact slicePart_int h
theorem zdd {sl:Addr} {vl vu:Value} {lo hi:Option Int} {n:Nat} {Q:Int × Int × Nat→Shared→Prop} (hs:s.heap.IsSliceOf sl vl vu .none) (pl:IsPart vl lo) (pu:IsPart vu hi)
  (h:Q (((sIx n 0 lo:Nat):Int),1,sIx n n hi - sIx n 0 lo) s):wpAny (model prog w) A (Builtin.Slice.sliceApplied (.ref sl) (pure (n:Int))) Q E s:=by
 obtain ⟨os,hos,hcs,hds⟩:=id hs
 unfold Builtin.Slice.sliceApplied Builtin.Slice.sliceFields
 refine wpAny_bind (wpAny_bind (wpAny_field hos hds (x:=vl) rfl (wpAny_bind (wpAny_field hos hds (x:=vu) rfl (wpAny_bind (wpAny_field hos hds (x := .none) rfl (wpAny_pure ?_)))))))
 refine wpAny_bind (slicePart_none ?_)
 show wpAny _ _ (if ((1:Int) == 0)=true then _ else _) _ _ s
 rw [if_neg (by decide)]
 refine wpAny_bind (zd2 pl (wpAny_bind (zd2 pu (wpAny_bind (wpAny_pure ?_)))))
 show wpAny _ _ (match Builtin.Slice.sliceAdjust lo hi 1 (n:Int) with | (lo,hi)=>pure (lo,(1:Int),Builtin.Slice.slicePlaces lo hi 1)) _ _ s
 rw [zgd lo hi n]
 show wpAny _ _ (pure (((sIx n 0 lo:Nat):Int),(1:Int),Builtin.Slice.slicePlaces ((sIx n 0 lo:Nat):Int) ((sIx n n hi:Nat):Int) 1)) _ _ s
 rw [zgw]
 exact wpAny_pure h
theorem ziH (xs:Array Value) (i k:Nat):((List.range k).filterMap fun (m:Nat)=>xs[((i:Int) + (m:Int) * 1).toNat]?).toArray=((xs.toList.drop i).take k).toArray:=by
 have e:(fun (m:Nat)=>xs[((i:Int) + (m:Int) * 1).toNat]?)=fun m=>xs[i + m]?:=by
  funext m
  have:((i:Int) + (m:Int) * 1).toNat=i + m:=by omega
  rw [this]
 rw [e]
 have:=pick_run xs i k
 rw [List.filterMap_map] at this
 have e2:((fun x=>xs[x]?) ∘ fun x=>i + x)=fun m=>xs[i + m]?:=rfl
 rw [e2] at this
 rw [this]
theorem zc6 {t sl:Addr} {items:Array Value} {vl vu:Value} {lo hi:Option Int} {Q:Value→Shared→Prop} (ht:IsTup s.heap t items) (hs:s.heap.IsSliceOf sl vl vu .none) (pl:IsPart vl lo) (pu:IsPart vu hi)
  (hw:¬ (sIx items.size 0 lo=0∧sIx items.size items.size hi=items.size))
  (h:Q (.ref s.heap.objs.size) { s with heap:=s.heap.push { cls := .type "tuple",data := .seq ((items.toList.drop (sIx items.size 0 lo)).take (sIx items.size items.size hi - sIx items.size 0 lo)).toArray } })
  (hsz:items.size ≤ sizeLine):wpAny (model prog w) A (getItem (.ref t) (.ref sl)) Q E s:=by
 have htake:sizeOk (.seq ((items.toList.drop (sIx items.size 0 lo)).take (sIx items.size items.size hi - sIx items.size 0 lo)).toArray):=by
  show ((items.toList.drop (sIx items.size 0 lo)).take (sIx items.size items.size hi - sIx items.size 0 lo)).toArray.size ≤ sizeLine
  rw [List.size_toArray,List.length_take,List.length_drop,Array.length_toList]
  omega
 have hj:sIx items.size items.size hi ≤ items.size:=zkO _ _ (Nat.le_refl _) hi
 obtain ⟨os,hos,hcs,hds⟩:=id hs
 have hTs:s.TypeIs (.ref sl) "slice":=⟨os,hos,hcs⟩
 unfold getItem
 try with_reducible refine wpAny_holding ?_
 first | refine wpAny_bind (wpAny_pure ?_) | skip
 refine wpAny_bind (wpAny_sequenceKey ht.typeIs (by decide) ?_)
 refine wpAny_bind (wpAny_callSpecial?_slot (name:=Str.ofString "__getitem__") ht.typeIs PyProof.Rows.slot_tuple_getitem
  (wpAny_call_entry PyProof.Rows.slot_tuple_getitem ht.typeIs entry_tuple_getitem ?_ (args_tuple_getitem _ _)))
 show wpAny _ _ (Builtin.Tuple.tupleItemsOf (.ref t) >>= _) _ _ s
 refine wpAny_bind (tupleItemsOf_ ht ?_)
 refine wpAny_bind (wpAny_typeOf hTs ?_)
 rw [if_pos (by decide)]
 refine wpAny_bind (zdd hs pl pu ?_)
 have hno:¬ ((((sIx items.size 0 lo:Nat):Int) == 0 && (1:Int) == 1 && (sIx items.size items.size hi - sIx items.size 0 lo) == items.size)=true):=by
  intro q
  rw [Bool.and_eq_true,Bool.and_eq_true] at q
  have q1:((sIx items.size 0 lo:Nat):Int)=0:=eq_of_beq q.1.1
  have q2:sIx items.size items.size hi - sIx items.size 0 lo=items.size:=eq_of_beq q.2
  exact hw ⟨by omega,by omega⟩
 show wpAny _ _ (if (((sIx items.size 0 lo:Nat):Int) == 0 && (1:Int) == 1 && (sIx items.size items.size hi - sIx items.size 0 lo) == items.size)=true then _ else _) _ _ s
 rw [if_neg hno,ziH]
 first
  | exact wpAny_bind (m:=Builtin.Tuple.tupleExact _) (wpAny_newObj_type (wpAny_pure ⟨_,rfl,wpAny_pure h⟩) htake)
  | exact wpAny_bind (m:=Builtin.Tuple.tupleExact _) (wpAny_newObj_type (wpAny_bind (wpAny_pure (wpAny_pure ⟨_,rfl,wpAny_pure h⟩))) htake)
  | exact wpAny_bind (wpAny_bind (m:=Builtin.Tuple.tupleExact _) (wpAny_newObj_type (wpAny_pure (wpAny_pure ⟨_,rfl,wpAny_pure h⟩)) htake))
  | exact wpAny_bind (wpAny_bind (m:=Builtin.Tuple.tupleExact _) (wpAny_newObj_type (wpAny_pure ⟨_,rfl,wpAny_pure h⟩) htake))
end
end HT
namespace L2
open PySem PySem.Spec PyProof.Rows
abbrev TO:=St→Hp→(Option Int→Hp→Prop)→Prop
def PO (X:Cx) (e:Option Expr) (t:TO):Prop :=
 ∀ (pins:List (Addr × Obj)) (s:Shared) (σ:St) (H:Hp) (Q:Option Int→Hp→Prop),Inv X pins σ H s→t σ H Q →
  wpAny (model X.prog X.w) X.A (evalPart e X.env) (fun u s'=>∃ o H',Inv X pins σ H' s'∧IsPart u o∧Q o H') X.xe s
def zju:TO:=fun _ H Q=>Q none H
def zmj (t:TE):TO:=fun σ H Q=>t σ H fun x H1=>∃ i,x = .int i∧Q (some i) H1
theorem intsAre_of {ns:List Int}:∀ {us:List Value},Vals (ns.map V.int) us→IntsAre us ns:=by
 induction ns with
 | nil=>intro us r;rw [List.map_nil] at r;cases r;exact .nil
 | cons n ns ih =>
  intro us r
  rw [List.map_cons] at r
  cases r with
  | cons r1 r2 =>
   obtain ⟨t,e⟩:=r1
   subst e
   exact .cons n t (ih r2)
section
variable {X:Cx} {e:Expr} {te:TE} {lo hi:Option Expr} {tl th:TO} {pos p2:Pos}
theorem zkj:PO X none zju:=by
 intro pins s σ H Q I h
 rw [evalPart_none]
 exact wpAny_pure ⟨none,H,I, .none,h⟩
theorem zjk (h:PE X e te):PO X (some e) (zmj te):=by
 intro pins s σ H Q I hw
 rw [evalPart_some]
 refine thn (h pins s σ H _ I hw) fun u s1 ⟨x,H1,I1,r1,q1⟩=>?_
 obtain ⟨i,rfl,q⟩:=q1
 obtain ⟨t,rfl⟩:=r1
 exact ⟨some i,H1,I1, .int i t,q⟩
def SlR (X:Cx) (r:V→Option Int→Option Int→Hp→VK→Prop):Prop :=
 ∀ (pins:List (Addr × Obj)) (s:Shared) (σ:St) (H:Hp) (x:V) (v vl vu:Value) (lo hi:Option Int) (sl:Addr) (Q:VK),Inv X pins σ H s→RelV x v→s.heap.IsSliceOf sl vl vu .none→IsPart vl lo→IsPart vu hi→r x lo hi H Q →
  ∃ T id,typeLookup (.type T) "__getitem__" = pure (some (.builtin id))∧s.TypeIs v T∧wpAny (model X.prog X.w) X.A (getItem v (.ref sl)) (EP X pins σ Q) X.xe s
theorem SlR.or {r r':V→Option Int→Option Int→Hp→VK→Prop} (h:SlR X r) (h':SlR X r'):SlR X (fun x lo hi H Q=>r x lo hi H Q∨r' x lo hi H Q):=by
 intro pins s σ H x v vl vu lo hi sl Q I rx hs pl pu q
 rcases q with q | q
 ·exact h pins s σ H x v vl vu lo hi sl Q I rx hs pl pu q
 ·exact h' pins s σ H x v vl vu lo hi sl Q I rx hs pl pu q
def tSl (r:V→Option Int→Option Int→Hp→VK→Prop) (te:TE) (tl th:TO):TE:=fun σ H Q=>te σ H fun x H1=>tl σ H1 fun l H2=>th σ H2 fun u H3=>r x l u H3 Q
theorem zib {r:V→Option Int→Option Int→Hp→VK→Prop} (hr:SlR X r) (he:PE X e te) (hl:PO X lo tl) (hu:PO X hi th):PE X (.Subscript e (.Slice lo hi none p2) pos) (tSl r te tl th):=by
 intro pins s σ H Q I h
 refine Subscript_ (thn (he pins s σ H _ I h) fun v s1 ⟨x,H1,I1,r1,q1⟩=>?_)
 refine wpAny_Slice (thn (hl pins s1 σ H1 _ I1 q1) fun vl s2 ⟨l,H2,I2,pl,q2⟩=>thn (hu pins s2 σ H2 _ I2 q2) fun vu s3 ⟨u,H3,I3,pu,q3⟩=>?_)
 rw [evalPart_none]
 refine wpAny_pure ?_
 have I4:Inv X pins σ H3 { s3 with heap:=s3.heap.push { cls := .type "slice",data := .fields #[vl,vu, .none] } }:=I3.kept (t':=s3.toks) fun b ob q=>Heap.get?_push_of_some _ q
 obtain ⟨T,id,hT,ht,hg⟩:=hr pins { s3 with heap:=s3.heap.push { cls := .type "slice",data := .fields #[vl,vu, .none] } } σ H3 x v vl vu l u s3.heap.objs.size Q I4 r1 (Heap.IsSliceOf.new ..) pl pu q3
 show wpAny (model X.prog X.w) X.A (subscriptTail e (.Slice lo hi none p2) v (.ref s3.heap.objs.size)) (EP X pins σ Q) X.xe { s3 with heap:=s3.heap.push { cls := .type "slice",data := .fields #[vl,vu, .none] } }
 exact tail_any (ops:=[.ref s3.heap.objs.size,v]) ht hT hg (by with_unfolding_all rfl)
def cutV (xs:List V) (lo hi:Option Int):List V:=(xs.drop (HT.sIx xs.length 0 lo)).take (HT.sIx xs.length xs.length hi - HT.sIx xs.length 0 lo)
theorem zdu (xs:List V) (lo hi:Option Int):(cutV xs lo hi).length ≤ xs.length:=by
 unfold cutV
 rw [List.length_take,List.length_drop]
 omega
def rSlT (K:PySem.W.Frag):V→Option Int→Option Int→Hp→VK→Prop:=fun x lo hi H Q=>∃ a xs,x = .ref a∧SqT K H a xs ∧
 ¬ (HT.sIx xs.length 0 lo=0∧HT.sIx xs.length xs.length hi=xs.length)∧∀ p,H p=none→Q (.ref p) (upd H p (.tup (cutV xs lo hi)))
theorem zlt:SlR X (rSlT X.K):=by
 intro pins s σ H x v vl vu lo hi sl Q I rx hs pl pu h
 obtain ⟨a,xs,rfl,hx,hw,q⟩:=h
 cases rx
 obtain ⟨its,r,ht,hz⟩:=I.tuple hx
 have hlen:its.toArray.size=xs.length:=by rw [List.size_toArray];exact r.length.symm
 refine ⟨"tuple",_,PyProof.Rows.slot_tuple_getitem.lookup,ht.typeIs,?_⟩
 refine HT.zc6 ht hs pl pu (by rw [hlen];exact hw) ?_ (by rw [hlen];exact hz)
 rw [hlen]
 refine ⟨.ref s.heap.objs.size,_,I.laid (t':=s.toks) (o := .tup (cutV xs lo hi)) (fun b ob q=>Heap.get?_push_of_some _ q) (Nat.le_refl _) ?_,rfl,q _ (I.hok.fresh (Nat.le_refl _))⟩
 exact ⟨Nat.le_trans (zdu xs lo hi) hz,_,(r.drop (HT.sIx xs.length 0 lo)).take (HT.sIx xs.length xs.length hi - HT.sIx xs.length 0 lo),IsTup.new _ _⟩
def zmz (K:PySem.W.Frag):R2:=fun x y H Q=>∃ a b xs ys,x = .ref a∧y = .ref b∧SqT K H a xs∧SqT K H b ys∧xs ≠ []∧xs.length + ys.length ≤ sizeLine ∧
 (ys=[]→Q (.ref a) H)∧(ys ≠ []→∀ p,H p=none→Q (.ref p) (upd H p (.tup (xs ++ ys))))
theorem Vals.zfk {xs:List V} {us:List Value} (r:Vals xs us):us=[]↔xs=[]:=by
 cases r with
 | nil=>simp
 | cons _ _=>simp
theorem zjo:OpR X (binaryOp .Add) (zmz X.K):=by
 intro pins s σ H x y v u Q I rx ry h
 obtain ⟨a,b,xs,ys,rfl,rfl,ha,hb,hx,hz,q1,q2⟩:=h
 cases rx
 cases ry
 obtain ⟨its,r1,p1,_⟩:=I.tuple ha
 obtain ⟨its2,r2,p2,_⟩:=I.tuple hb
 refine HT.zjt p1 p2 (fun z=>hx (r1.zfk.mp z)) (fun z=>⟨.ref a,H,I,rfl,q1 (r2.zfk.mp z)⟩) (fun z=>?_) (by rw [← r1.length,← r2.length];exact hz)
 refine ⟨.ref s.heap.objs.size,_,I.laid (t':=s.toks) (o := .tup (xs ++ ys)) (fun b ob q=>Heap.get?_push_of_some _ q) (Nat.le_refl _) ?_,rfl,q2 (fun w=>z (r2.zfk.mpr w)) _ (I.hok.fresh (Nat.le_refl _))⟩
 exact ⟨by rw [List.length_append];exact hz,_,r1.append r2,IsTup.new _ _⟩
end
end L2
namespace L2
open PySem PySem.Spec PyProof.Rows
def ixN (n:Nat) (i:Int):Option Nat:=if 0 ≤ i then (if i < n then some i.toNat else none) else if -(n:Int) ≤ i then some (i + n).toNat else none
def atI {α:Type} (xs:List α) (i:Int):Option α:=(ixN xs.length i).bind fun j=>xs[j]?
theorem zhB {n:Nat} {i:Int} {j:Nat} (h:ixN n i=some j):seqIndex? i n=some j∧j < n∧-(n:Int) ≤ i∧i < n:=by
 unfold ixN at h
 by_cases h0:0 ≤ i
 ·rw [if_pos h0] at h
  by_cases h1:i < n
  ·rw [if_pos h1] at h
   have e:i.toNat=j:=Option.some.inj h
   exact ⟨by rw [seqIndex_of h0 h1,e],by omega,by omega,h1⟩
  ·rw [if_neg h1] at h;cases h
 ·rw [if_neg h0] at h
  by_cases h1 : -(n:Int) ≤ i
  ·rw [if_pos h1] at h
   have e:(i + n).toNat=j:=Option.some.inj h
   exact ⟨by rw [seqIndex_neg (by omega) h1,e],by omega,h1,by omega⟩
  ·rw [if_neg h1] at h;cases h
theorem zfw {α:Type} {xs:List α} {i:Int} {v:α} (h:atI xs i=some v):∃ j,seqIndex? i xs.length=some j∧xs[j]? = some v∧j < xs.length∧-(xs.length:Int) ≤ i∧i < xs.length:=by
 unfold atI at h
 cases e:ixN xs.length i with
 | none=>rw [e] at h;cases h
 | some j =>
  rw [e] at h
  obtain ⟨h1,h2,h3,h4⟩:=zhB e
  exact ⟨j,h1,h,h2,h3,h4⟩
def zgV (b:Expr):Prop:=∀ o i,subscripted b false o i=operate [o,i] (getItem o i)
def IxR (X:Cx) (r:R2):Prop :=
 ∀ (value slice:Expr) (pins:List (Addr × Obj)) (s:Shared) (σ:St) (H:Hp) (x y:V) (v u:Value) (Q:VK),Inv X pins σ H s→RelV x v→RelV y u→r x y H Q →
  subscripted slice false v u=operate [v,u] (getItem v u)→wpAny (model X.prog X.w) X.A (subscriptTail value slice v u) (EP X pins σ Q) X.xe s
def MtR (X:Cx) (id:String) (r:V→List V→Hp→VK→Prop):Prop :=
 ∀ (pins:List (Addr × Obj)) (s:Shared) (σ:St) (H:Hp) (x:V) (xs:List V) (v:Value) (us:List Value) (Q:VK),Inv X pins σ H s→RelV x v→Vals xs us→r x xs H Q →
  wpAny (model X.prog X.w) X.A (call (.builtin id) (v :: us)) (EP X pins σ Q) X.xe s
section
variable {X:Cx} {a b:Expr} {ta tb:TE} {pos:Pos}
theorem IxR.or {r r':R2} (h:IxR X r) (h':IxR X r'):IxR X (fun x y H Q=>r x y H Q∨r' x y H Q):=by
 intro value slice pins s σ H x y v u Q I rx ry q hs
 rcases q with q | q
 ·exact h value slice pins s σ H x y v u Q I rx ry q hs
 ·exact h' value slice pins s σ H x y v u Q I rx ry q hs
theorem MtR.or {id:String} {r r':V→List V→Hp→VK→Prop} (h:MtR X id r) (h':MtR X id r'):MtR X id (fun x xs H Q=>r x xs H Q∨r' x xs H Q):=by
 intro pins s σ H x xs v us Q I rx rs q
 rcases q with q | q
 ·exact h pins s σ H x xs v us Q I rx rs q
 ·exact h' pins s σ H x xs v us Q I rx rs q
theorem zmK {r:R2} (hr:IxR X r) (ha:PE X a ta) (hb:PE X b tb) (hs:zgV b):PE X (.Subscript a b pos) (tOp r ta tb):=by
 intro pins s σ H Q I h
 exact Subscript_ (binT ha hb I h fun v u s2 x y H2 I2 rx ry q=>hr a b pins s2 σ H2 x y v u Q I2 rx ry q (hs _ _))
def rIxL (K:PySem.W.Frag):R2:=fun x y H Q=>∃ p xs i v,x = .ref p∧y = .int i∧SqL K H p xs∧atI xs i=some v∧Q v H
def rIxT (K:PySem.W.Frag):R2:=fun x y H Q=>∃ p xs i v,x = .ref p∧y = .int i∧SqT K H p xs∧atI xs i=some v∧Q v H
def rIxS:R2:=fun x y H Q=>∃ z i c,x = .str z∧y = .int i∧z.length ≤ sizeLine∧atI z.cps.toList i=some c∧Q (.str ⟨#[c]⟩) H
theorem zjC:IxR X (rIxL X.K):=by
 intro value slice pins s σ H x y v u Q I rx ry h hs
 obtain ⟨p,xs,i,z,rfl,rfl,hq,he,q⟩:=h
 cases rx
 obtain ⟨t,rfl⟩:=ry
 obtain ⟨its,r,pl,hz⟩:=I.list hq
 obtain ⟨j,h1,h2,h3,h4,h5⟩:=zfw he
 obtain ⟨w,ew,rw'⟩:=r.get h2
 have hl:=r.length
 have hn:=zeZ
 have fin:EP X pins σ Q w s:=⟨z,H,I,rw',q⟩
 by_cases h0:0 ≤ i
 ·have hj:i.toNat=j:=by
   rw [seqIndex_of h0 h5] at h1
   exact Option.some.inj h1
  exact item_listR pl.isList h0 (by omega) (by rw [hj];simpa using ew) fin hs
 ·have hj:(i + (its.toArray.size:Int)).toNat=j:=by
   rw [seqIndex_neg (by omega) h4] at h1
   rw [List.size_toArray,← hl]
   exact Option.some.inj h1
  exact subscriptTail_builtinR (x:=w) pl.isList.typeIs slot_list_getitem.lookup
   (wpAny_getItem_list_neg (Q:=fun r s'=>r=w∧EP X pins σ Q r s') pl.isList (by omega) (by rw [List.size_toArray] <;> omega) (by omega) (by rw [hj];simpa using ew) ⟨rfl,fin⟩) hs
theorem zlY:IxR X (rIxT X.K):=by
 intro value slice pins s σ H x y v u Q I rx ry h hs
 obtain ⟨p,xs,i,z,rfl,rfl,hq,he,q⟩:=h
 cases rx
 obtain ⟨t,rfl⟩:=ry
 obtain ⟨its,r,pl,hz⟩:=I.tuple hq
 obtain ⟨j,h1,h2,h3,h4,h5⟩:=zfw he
 obtain ⟨w,ew,rw'⟩:=r.get h2
 have hl:=r.length
 have hn:=zeZ
 have fin:EP X pins σ Q w s:=⟨z,H,I,rw',q⟩
 exact subscriptTail_builtinR (x:=w) pl.typeIs slot_tuple_getitem.lookup
  (getItem_tuple (j:=j) (Q:=fun r s'=>r=w∧EP X pins σ Q r s') pl (by omega) (by omega) (by rw [List.size_toArray,← hl];exact h1) (by simpa using ew) ⟨rfl,fin⟩) hs
theorem zlb:IxR X rIxS:=by
 intro value slice pins s σ H x y v u Q I rx ry h hs
 obtain ⟨z,i,c,rfl,rfl,hz,he,q⟩:=h
 obtain ⟨t,rfl⟩:=rx
 obtain ⟨t',rfl⟩:=ry
 obtain ⟨j,h1,h2,h3,h4,h5⟩:=zfw he
 have hl:z.cps.toList.length=z.length:=by simp [Str.length]
 rw [hl] at h1 h4 h5
 have hn:=zeZ
 exact tail_any (typeIs_str s z t) slot_str_getitem.lookup (getItem_str (c:=c) (by
  have e1:decide (i < -(2 ^ 63:Int))=false:=decide_eq_false (by omega)
  have e2:decide (i ≥ 2 ^ 63)=false:=decide_eq_false (by omega)
  rw [e1,e2,Bool.or_false]) (by rw [h1];simpa using h2) ⟨.str ⟨#[c]⟩,H,I.tok _,⟨_,rfl⟩,q⟩) hs
def rIx (K:PySem.W.Frag):R2:=fun x y H Q=>rIxL K x y H Q∨rIxT K x y H Q∨rIxS x y H Q
theorem zkX:IxR X (rIx X.K):=zjC.or (zlY.or zlb)
theorem zgi (its:List Value) (n j:Nat) (u:Value):Obj.mapSeq (·.setIfInBounds j u) { cls := .type "list",data := .seq its.toArray n } = { cls := .type "list",data := .seq (its.set j u).toArray n }:=by
 simp [Obj.mapSeq]
theorem Inv.lst {pins:List (Addr × Obj)} {σ:St} {H:Hp} {s:Shared} {p:Addr} {xs:List V} (I:Inv X pins σ H s) (h:H p=some (.lst xs)) :
  ∃ (its:List Value) (n:Nat),Vals xs its∧s.heap.get? p=some { cls := .type "list",data := .seq its.toArray n }∧xs.length ≤ sizeLine:=by
 obtain ⟨z,its,n,r,e⟩:=I.hok p _ h
 exact ⟨its,n,r,e,z⟩
theorem Inv.zlB {pins:List (Addr × Obj)} {σ:St} {H:Hp} {s:Shared} {p:Addr} {xs ys:List V} {its its':List Value} {n n':Nat} {f:Obj→Obj} (I:Inv X pins σ H s) (h:H p=some (.lst xs))
  (ho:s.heap.get? p=some { cls := .type "list",data := .seq its.toArray n }) (hf:f { cls := .type "list",data := .seq its.toArray n } = { cls := .type "list",data := .seq its'.toArray n' }) (r:Vals ys its') (hz:ys.length ≤ sizeLine) (t:Nat) :
  Inv X pins σ (upd H p (.lst ys)) { s with heap:=s.heap.update p f,toks:=t }:=by
 have e:(s.heap.update p f).get? p=some { cls := .type "list",data := .seq its'.toArray n' }:=by
  rw [Heap.get?_update_self f ho (by rw [hf] <;> rfl),hf]
 refine I.write (x:=p) (e:=p) (by rw [h];trivial) (.inl rfl) (fun b u hb q=>(Heap.get?_update_other _ _ (Ne.symm hb)).trans q) ⟨_,e⟩ ?_
 exact ⟨hz,its',n',r,e⟩
def zmE:V→V→V→Hp→(Hp→Prop)→Prop:=fun o i v H Q=>∃ p xs k j,o = .ref p∧i = .int k∧H p=some (.lst xs)∧ixN xs.length k=some j∧Q (upd H p (.lst (xs.set j v)))
theorem set_list:PSet X zmE:=by
 intro pins s σ H o i v ov iv u Q I ro ri rv h
 obtain ⟨p,xs,k,j,rfl,rfl,hp,hj,q⟩:=h
 cases ro
 obtain ⟨t,rfl⟩:=ri
 obtain ⟨its,n,r,ho,hz⟩:=I.lst hp
 obtain ⟨h1,h2,h3,h4⟩:=zhB hj
 have hl:=r.length
 have hn:=zeZ
 have I':Inv X pins σ (upd H p (.lst (xs.set j v))) { s with heap:=s.heap.update p (Obj.mapSeq (·.setIfInBounds j u)) } :=
  I.zlB hp ho (zgi its n j u) (r.set rv j) (by rw [List.length_set];exact hz) s.toks
 by_cases h0:0 ≤ k
 ·have hk:k.toNat=j:=by
   rw [seqIndex_of h0 h4] at h1
   exact Option.some.inj h1
  exact PySem.W.ki_setAt ho h0 (by omega) (by rw [List.size_toArray,← hl];exact h4) (by rw [hk];exact ⟨_,I',q⟩)
 ·have hk:(k + (its.toArray.size:Int)).toNat=j:=by
   rw [seqIndex_neg (by omega) h3] at h1
   rw [List.size_toArray,← hl]
   exact Option.some.inj h1
  exact PySem.W.ki_setBack ho (by omega) (by rw [List.size_toArray,← hl];exact h3) (by omega) (by rw [hk];exact ⟨_,I',q⟩)
theorem zeK (lo hi:Option Int) (n:Nat):(sliceBounds lo hi none n).1=((HT.sIx n 0 lo:Nat):Int)∧(sliceBounds lo hi none n).2.1=((HT.sIx n n hi:Nat):Int)∧(sliceBounds lo hi none n).2.2=1:=by
 refine ⟨?_,?_,rfl⟩
 ·cases lo with
  | none=>simp [sliceBounds,HT.sIx]
  | some i =>
   simp only [sliceBounds,HT.sIx,Option.getD_none,show (1:Int) > 0 by decide,if_true]
   by_cases h:i < 0
   ·simp only [h,if_true] <;> omega
   ·simp only [h,if_false] <;> omega
 ·cases hi with
  | none=>simp [sliceBounds,HT.sIx]
  | some i =>
   simp only [sliceBounds,HT.sIx,Option.getD_none,show (1:Int) > 0 by decide,if_true]
   by_cases h:i < 0
   ·simp only [h,if_true] <;> omega
   ·simp only [h,if_false] <;> omega
theorem zeh (its:List Value) (lo hi:Option Int):slicePick its.toArray lo hi none=((its.drop (HT.sIx its.length 0 lo)).take (HT.sIx its.length its.length hi - HT.sIx its.length 0 lo)).toArray:=by
 obtain ⟨h1,h2,h3⟩:=zeK lo hi its.toArray.size
 unfold slicePick
 rw [h1,h2,h3]
 simp only [sliceRange_one,pick_run,List.size_toArray] <;> rfl
def rSlL (K:PySem.W.Frag):V→Option Int→Option Int→Hp→VK→Prop:=fun x lo hi H Q=>∃ a xs,x = .ref a∧SqL K H a xs∧∀ p,H p=none→Q (.ref p) (upd H p (.lst (cutV xs lo hi)))
theorem zjA:SlR X (rSlL X.K):=by
 intro pins s σ H x v vl vu lo hi sl Q I rx hs pl pu h
 obtain ⟨a,xs,rfl,hx,q⟩:=h
 cases rx
 obtain ⟨its,r,ht,hz⟩:=I.list hx
 have hlen:=r.length
 refine ⟨"list",_,slot_list_getitem.lookup,ht.isList.typeIs,?_⟩
 refine wpAny_getItem_list_slice ht.isList hs pl pu .none (by simp) ?_ (by rw [List.size_toArray] <;> omega)
 rw [zeh,← hlen]
 refine ⟨.ref s.heap.objs.size,_,I.laid (t':=s.toks) (o := .lst (cutV xs lo hi)) (fun b ob q=>Heap.get?_push_of_some _ q) (Nat.le_refl _) ?_,rfl,q _ (I.hok.fresh (Nat.le_refl _))⟩
 exact ⟨Nat.le_trans (zdu xs lo hi) hz,_,0,(r.drop (HT.sIx xs.length 0 lo)).take (HT.sIx xs.length xs.length hi - HT.sIx xs.length 0 lo),Heap.get?_push_size _ rfl⟩
theorem ze0:zcI X (.builtin "len") (fun xs H Q=>∃ p ys,xs=[.ref p]∧(SqL X.K H p ys∨SqT X.K H p ys)∧Q (.int ys.length) H):=by
 intro pins s σ H xs us Q I r h
 obtain ⟨p,ys,rfl,hq,q⟩:=h
 obtain ⟨u,rfl,rx⟩:=vals1 r
 cases rx
 have hn:=zeZ
 rcases hq with hq | hq
 ·obtain ⟨its,r',pl,hz⟩:=I.list hq
  have hlen:=r'.length
  exact Calls.call_len_list pl.isList (by simp only [List.size_toArray] <;> omega) ⟨.int ys.length,H,I.tok _,⟨s.toks + 1,by rw [List.size_toArray,hlen]⟩,q⟩
 ·obtain ⟨its,r',pl,hz⟩:=I.tuple hq
  have hlen:=r'.length
  exact len_tuple pl (by simp only [List.size_toArray] <;> omega) ⟨.int ys.length,H,I.tok _,⟨s.toks + 1,by rw [List.size_toArray,hlen]⟩,q⟩
theorem zcI.or {f:Value} {r r':List V→Hp→VK→Prop} (h:zcI X f r) (h':zcI X f r'):zcI X f (fun xs H Q=>r xs H Q∨r' xs H Q):=by
 intro pins s σ H xs us Q I rs q
 rcases q with q | q
 ·exact h pins s σ H xs us Q I rs q
 ·exact h' pins s σ H xs us Q I rs q
def tyV (K:PySem.W.Frag) (T:String) (x:V) (H:Hp):Prop:=match x with
 | .str _=>T = "str"
 | .int _=>T = "int"
 | .ref p=>(T = "list"∧∃ xs,SqL K H p xs)∨(T = "tuple"∧∃ o,K.lookup p=some o∧o.cls = .type "tuple"∧o.dict=none) ∨
   (T = "dict"∧((∃ kvs,H p=some (.dK kvs))∨∃ kvs,H p=some (.dT kvs)))∨(T = "set"∧∃ S n,H p=some (.set S n))
 | _=>False
theorem zlJ {pins:List (Addr × Obj)} {σ:St} {H:Hp} {s:Shared} {T:String} {x:V} {v:Value} (I:Inv X pins σ H s) (r:RelV x v) (ty:tyV X.K T x H) :
  s.TypeIs v T∧∀ a,v = .ref a→∃ ob,s.heap.get? a=some ob∧ob.dict=none:=by
 cases x with
 | str z =>
  obtain ⟨t,rfl⟩:=r
  cases (show T = "str" from ty)
  exact ⟨typeIs_str s z t,fun _ e=>nomatch e⟩
 | int i =>
  obtain ⟨t,rfl⟩:=r
  cases (show T = "int" from ty)
  exact ⟨typeIs_int s i t,fun _ e=>nomatch e⟩
 | ref p =>
  cases r
  rcases ty with ⟨rfl,xs,hq⟩ | ⟨rfl,o,hk,hc,hd⟩ | ⟨rfl,hk⟩ | ⟨rfl,S,n,hk⟩
  ·obtain ⟨its,_,pl,_⟩:=I.list hq
   refine ⟨pl.isList.typeIs,fun a e=>?_⟩
   cases e
   obtain ⟨o,n,e,c,hd,_⟩:=pl
   exact ⟨o,e,hd⟩
  ·refine ⟨⟨o,I.kIn p o hk,hc⟩,fun a e=>?_⟩
   cases e
   exact ⟨o,I.kIn _ o hk,hd⟩
  ·have z:∃ o,s.heap.get? p=some o∧o.ExactDict:=by
    rcases hk with ⟨kvs,hk⟩ | ⟨kvs,hk⟩
    ·obtain ⟨_,_,_,_,o,_,_,e,ex,_⟩:=I.hok p _ hk
     exact ⟨o,e,ex⟩
    ·obtain ⟨_,_,_,_,o,_,_,e,ex,_⟩:=I.hok p _ hk
     exact ⟨o,e,ex⟩
   obtain ⟨o,e,ex⟩:=z
   refine ⟨⟨o,e,ex.1⟩,fun a e2=>?_⟩
   cases e2
   exact ⟨o,e,ex.2.1⟩
  ·obtain ⟨o,_,_,_,e,ex,_⟩:=I.hok p _ hk
   refine ⟨⟨o,e,ex.1⟩,fun a e2=>?_⟩
   cases e2
   exact ⟨o,e,ex.2.1⟩
 | _=>exact False.elim ty
def tBM (K:PySem.W.Frag) (T:String) (r:V→List V→Hp→VK→Prop) (to:TE) (t:TA):TE:=fun σ H Q=>to σ H fun x H1=>tyV K T x H1∧t σ H1 fun xs H2=>r x xs H2 Q
variable {o e:Expr} {es:List Expr} {to:TE} {t:TA} {name:Str} {apos cpos:Pos} {T id:String} {r:V→List V→Hp→VK→Prop}
theorem zkU (pa:PlainAttrs T) (slot:Slot T name id) (hty:typeOf (.builtin id)=pure (.type "method_descriptor")) (hm:MtR X id r) (ho:PE X o to) (ha:PA X (e :: es) t)
  (hbase:attributeBase o name X.env (eval o X.env)=eval o X.env:=by rfl)
  (hfew:((backTo cpos (starEach (e :: es) X.env)).all (fun x=>!x.1) && (backToKw cpos (keywordEach [] X.env)).all (fun x=>x.1.isSome)
   && decide ((e :: es).length + ([] : List Keyword).length + (if ([] : List Keyword).isEmpty then 0 else 1) < 30))=true:=by rfl)
  (hline:(apos.endLine == cpos.line)=true:=by rfl) (hs:starEach (e :: es) X.env=(false,eval e X.env) :: starEach es X.env:=by rfl) (hplain:(backTo cpos (starEach es X.env)).any (·.1)=false:=by rfl) :
  PE X (.Call (.Attribute o name apos) (e :: es) [] cpos) (tBM X.K T r to t):=by
 intro pins s σ H Q I h
 refine wpAny_Call_method_late hbase hfew hline rfl (thn (ho pins s σ H _ I h) fun v s1 ⟨x,H1,I1,r1,ty,q1⟩=>?_)
 obtain ⟨h1,h2⟩:=zlJ I1 r1 ty
 refine ⟨T,id,pa,slot,hty,h1,h2,?_⟩
 have hA:=ha cpos pins s1 σ H1 _ I1 q1
 rw [hs] at hA ⊢
 refine Calls.callWith_builtin (by show (false || (backTo cpos (starEach es X.env)).any (·.1))=false;rw [hplain] <;> rfl) (Calls.evalArgs_plain ?_)
 exact thn hA fun us s2 ⟨vs,H2,I2,r2,q2⟩=>hm pins s2 σ H2 x vs v us Q I2 r1 r2 q2
end
end L2
namespace L2
open PySem PySem.Spec PyProof.Rows
def MtM (X:Cx) (id:String) (r:V→List V→Hp→VK→Prop):Prop :=
 ∀ (pins:List (Addr × Obj)) (s:Shared) (σ:St) (H:Hp) (x:V) (xs:List V) (v:Value) (us:List Value) (Q:VK),Inv X pins σ H s→RelV x v→Vals xs us→r x xs H Q →
  wpAny (model X.prog X.w) X.A (call (.builtin id) (v :: us)) (EP X pins σ Q) X.xe s
theorem Vals.one:∀ {x:V} {us:List Value},Vals [x] us→∃ u,us=[u]∧RelV x u
 | _,_, .cons r .nil=>⟨_,rfl,r⟩
theorem Vals.two:∀ {x y:V} {us:List Value},Vals [x,y] us→∃ u v,us=[u,v]∧RelV x u∧RelV y v
 | _,_,_, .cons r (.cons q .nil)=>⟨_,_,rfl,r,q⟩
theorem Vals.zero:∀ {us:List Value},Vals [] us→us=[]
 | _, .nil=>rfl
section
variable {X:Cx} {pins:List (Addr × Obj)} {σ:St} {H:Hp} {s:Shared} {l b:Addr} {xs ys zs:List V}
theorem Inv.lset {its its':List Value} {n:Nat} {f:Array Value→Array Value} {t':Nat} (I:Inv X pins σ H s) (hH:H l=some (.lst xs))
  (e:s.heap.get? l=some { cls := .type "list",data := .seq its.toArray n }) (hf:f its.toArray=its'.toArray) (hv:Vals ys its') (hz:ys.length ≤ sizeLine) :
  Inv X pins σ (upd H l (.lst ys)) { s with heap:=s.heap.update l (Obj.mapSeq f),toks:=t' }:=by
 have q:=PySem.IsL.update e f
 rw [hf] at q
 refine I.write (x:=l) (e:=l) (by rw [hH];exact trivial) (.inl rfl) (fun b' u hb hu=>(Heap.get?_update_other s.heap (Obj.mapSeq f) (Ne.symm hb)).trans hu) ⟨_,q⟩ ?_
 exact ⟨hz,its',_,hv,q⟩
theorem Inv.lnew {its:List Value} {t':Nat} (I:Inv X pins σ H s) (hv:Vals ys its) (hz:ys.length ≤ sizeLine) :
  Inv X pins σ (upd H s.heap.objs.size (.lst ys)) { s with heap:=s.heap.push { cls := .type "list",data := .seq its.toArray },toks:=t' } :=
 I.laid (fun _ _ q=>Heap.get?_push_of_some _ q) (Nat.le_refl _) ⟨hz,its,0,hv,Heap.get?_push_size _ rfl⟩
theorem Inv.fresh (I:Inv X pins σ H s):H s.heap.objs.size=none:=I.hok.fresh (Nat.le_refl _)
theorem Inv.lstM (I:Inv X pins σ H s) (hH:H l=some (.lst xs)):xs.length ≤ sizeLine∧∃ (its:List Value) (n:Nat),Vals xs its∧xs.length=its.length∧s.heap.get? l=some { cls := .type "list",data := .seq its.toArray n }:=by
 obtain ⟨z,its,n,r,e⟩:=I.hok l _ hH
 exact ⟨z,its,n,r,r.length,e⟩
theorem ziD {n:Nat} (h:n ≤ sizeLine):Builtin.List.listTooLong n=false:=by
 unfold Builtin.List.listTooLong
 exact decide_eq_false (by omega)
end
section
variable {X:Cx}
def zgY:V→List V→Hp→VK→Prop:=fun x vs H Q=>∃ l xs y,x = .ref l∧vs=[y]∧H l=some (.lst xs)∧xs.length < sizeLine∧Q .non (upd H l (.lst (xs ++ [y])))
theorem zck:MtM X "list.append" zgY:=by
 intro pins s σ H x vs v us Q I rx rv h
 obtain ⟨l,xs,y,rfl,rfl,hH,hz,q⟩:=h
 cases rx
 obtain ⟨u,rfl,ru⟩:=rv.one
 obtain ⟨z,its,n,r,hl,e⟩:=I.lstM hH
 refine call_meets F.slot_list_append ⟨_,e,rfl⟩ F.entry_list_append (F.args_list_append_2 _ _) (PySem.list_append l its.toArray n u (by rw [List.size_toArray];omega)) ⟨e,?_⟩
 refine ⟨.non,_,I.lset (its':=its ++ [u]) hH e (by simp) (r.append (.cons ru .nil)) ?_,rfl,q⟩
 rw [List.length_append,List.length_singleton]
 omega
def zhL:V→List V→Hp→VK→Prop:=fun x vs H Q=>∃ l b xs zs,x = .ref l∧vs=[.ref b]∧H l=some (.lst xs)∧H b=some (.lst zs)∧xs.length + zs.length ≤ sizeLine∧Q .non (upd H l (.lst (xs ++ zs)))
theorem zhE:MtM X "list.extend" zhL:=by
 intro pins s σ H x vs v us Q I rx rv h
 obtain ⟨l,b,xs,zs,rfl,rfl,hH,hB,hz,q⟩:=h
 cases rx
 obtain ⟨u,rfl,ru⟩:=rv.one
 cases ru
 obtain ⟨z,its,n,r,hl,e⟩:=I.lstM hH
 obtain ⟨z2,its2,n2,r2,hl2,e2⟩:=I.lstM hB
 have hsz:its.toArray.size + its2.toArray.size ≤ sizeLine:=by rw [List.size_toArray,List.size_toArray];omega
 have hlong:¬ (!its.toArray.isEmpty && Builtin.List.listTooLong (its.toArray.size + its2.toArray.size))=true:=by
  rw [ziD hsz,Bool.and_false]
  exact Bool.false_ne_true
 refine call_meets F.slot_list_extend ⟨_,e,rfl⟩ F.entry_list_extend (F.args_list_extend_2 _ _)
  (AutoSeq1.list_extend_list_list_0 l its.toArray n b its2.toArray n2 hlong (by rw [List.size_toArray];omega) (by omega)) ⟨e,e2,?_⟩
 refine ⟨.non,_,I.lset (its':=its ++ its2) hH e (by simp) (r.append r2) ?_,rfl,q⟩
 rw [List.length_append]
 omega
def rCat:R2:=fun x y H Q=>∃ l b xs zs,x = .ref l∧y = .ref b∧H l=some (.lst xs)∧H b=some (.lst zs)∧xs.length + zs.length ≤ sizeLine∧∀ p,H p=none→Q (.ref p) (upd H p (.lst (xs ++ zs)))
theorem zlM:OpR X (binaryOp .Add) rCat:=by
 intro pins s σ H x y v u Q I rx ry h
 obtain ⟨l,b,xs,zs,rfl,rfl,hH,hB,hz,q⟩:=h
 cases rx
 cases ry
 obtain ⟨z,its,n,r,hl,e⟩:=I.lstM hH
 obtain ⟨z2,its2,n2,r2,hl2,e2⟩:=I.lstM hB
 refine PySem.P.add_list e e2 ?_ (by rw [List.size_toArray,List.size_toArray];omega)
 have ea:its.toArray ++ its2.toArray=(its ++ its2).toArray:=by simp
 rw [ea]
 exact ⟨.ref _,_,I.lnew (t':=s.toks) (r.append r2) (by rw [List.length_append];omega),rfl,q _ I.fresh⟩
end
section
variable {prog:Program} {w:World} {A:Around} {E:Value→Shared→Prop} {s:Shared}
end
section
variable {X:Cx}
end
end L2
namespace L2
open PySem PySem.Spec PyProof.Rows
section
variable {κ:Type} [DecidableEq κ]
def valV (kvs:List (κ × V)) (k:κ):Option V:=(kvs.find? fun kv=>decide (kv.1=k)).map (·.2)
def putK (kvs:List (κ × V)) (k:κ) (v:V):List (κ × V) :=
 if (kvs.any fun kv=>decide (kv.1=k))=true then kvs.map (fun kv=>if kv.1=k then (kv.1,v) else kv) else kvs ++ [(k,v)]
theorem zeb {p:κ × V} {r:List (κ × V)} {k:κ} (e:p.1=k):valV (p :: r) k=some p.2:=by simp [valV,List.find?_cons,e]
theorem zel {p:κ × V} {r:List (κ × V)} {k:κ} (e:¬ p.1=k):valV (p :: r) k=valV r k:=by simp [valV,List.find?_cons,e]
theorem zfZ (k:κ):∀ kvs:List (κ × V),(kvs.any fun kv=>decide (kv.1=k))=(valV kvs k).isSome
 | []=>rfl
 | p :: r=>by
  rw [List.any_cons]
  by_cases e:p.1=k
  ·simp only [zeb e,decide_eq_true e,Bool.true_or,Option.isSome_some]
  ·rw [zel e,decide_eq_false e,Bool.false_or];exact zfZ k r
theorem RelO.zgJ {o:Option V} {u:Option Value} (r:RelO o u):o.isSome=u.isSome:=by
 cases o with
 | none=>cases u with
  | none=>rfl
  | some _=>exact (show False from r).elim
 | some _=>cases u with
  | none=>exact (show False from r).elim
  | some _=>rfl
theorem RelO.getD {o:Option V} {u:Option Value} {d:V} {d':Value} (r:RelO o u) (rd:RelV d d'):RelV (o.getD d) (u.getD d'):=by
 cases o with
 | none=>cases u with
  | none=>exact rd
  | some _=>exact (show False from r).elim
 | some _=>cases u with
  | none=>exact (show False from r).elim
  | some _=>exact r
theorem KV.val {kvs:List (κ × V)} {vs:List (κ × Value)} (r:KV kvs vs) (k:κ):RelO (valV kvs k) (valueAt vs k):=by
 unfold KV at r
 induction r with
 | nil=>exact True.intro
 | @cons p q ps qs h t ih =>
  obtain ⟨h1,h2⟩:=h
  by_cases e:p.1=k
  ·have e':q.1=k:=h1.symm.trans e
   have b:valueAt (q :: qs) k=some q.2:=by simp [valueAt,List.find?_cons,e']
   rw [zeb e,b];exact h2
  ·have e':¬ q.1=k:=fun z=>e (h1.trans z)
   have b:valueAt (q :: qs) k=valueAt qs k:=by simp [valueAt,List.find?_cons,e']
   rw [zel e,b];exact ih
theorem KV.any {kvs:List (κ × V)} {vs:List (κ × Value)} (r:KV kvs vs) (k:κ):(kvs.any fun kv=>decide (kv.1=k))=vs.any fun kv=>decide (kv.1=k):=by
 unfold KV at r
 induction r with
 | nil=>rfl
 | cons h t ih=>rw [List.any_cons,List.any_cons,ih,h.1]
theorem KV.repl {kvs:List (κ × V)} {vs:List (κ × Value)} (r:KV kvs vs) (k:κ) {y:V} {u:Value} (ry:RelV y u) :
  KV (kvs.map fun kv=>if kv.1=k then (kv.1,y) else kv) (vs.map fun kv=>if kv.1=k then (kv.1,u) else kv):=by
 unfold KV at r ⊢
 induction r with
 | nil=>exact .nil
 | @cons p q ps qs h t ih =>
  rw [List.map_cons,List.map_cons]
  refine .cons ?_ ih
  obtain ⟨h1,h2⟩:=h
  by_cases e:p.1=k
  ·rw [if_pos e,if_pos (h1.symm.trans e)];exact ⟨h1,ry⟩
  ·rw [if_neg e,if_neg (fun z=>e (h1.trans z))];exact ⟨h1,h2⟩
theorem KV.put {kvs:List (κ × V)} {vs:List (κ × Value)} (r:KV kvs vs) (k:κ) {y:V} {u:Value} (ry:RelV y u):KV (putK kvs k y) (stored vs k u):=by
 unfold putK stored
 rw [r.any k]
 by_cases e:(vs.any fun kv=>decide (kv.1=k))=true
 ·rw [if_pos e,if_pos e];exact r.repl k ry
 ·rw [if_neg e,if_neg e];exact Paired.snoc r ⟨rfl,ry⟩
theorem KV.keys {kvs:List (κ × V)} {vs:List (κ × Value)} (r:KV kvs vs):kvs.map (·.1)=vs.map (·.1):=by
 unfold KV at r
 induction r with
 | nil=>rfl
 | cons h t ih=>rw [List.map_cons,List.map_cons,ih,h.1]
theorem KV.length {kvs:List (κ × V)} {vs:List (κ × Value)} (r:KV kvs vs):kvs.length=vs.length:=Paired.length r
end
abbrev KT (H:Hp):List (List Key × V)→List (List Key × Addr × Value)→Prop:=Paired fun p q=>p.1=q.1∧H q.2.1=some (.tup (p.1.map kV))∧RelV p.2 q.2.2
theorem KT.val {H:Hp} {kvs:List (List Key × V)} {xs:List (List Key × Addr × Value)} (r:KT H kvs xs) (k:List Key):RelO (valV kvs k) ((atKey xs k).map (·.2)):=by
 induction r with
 | nil=>exact True.intro
 | @cons p q ps qs h t ih =>
  obtain ⟨h1,_,h2⟩:=h
  by_cases e:p.1=k
  ·have e':q.1=k:=h1.symm.trans e
   have b:atKey (q :: qs) k=some q.2:=by simp [atKey,List.find?_cons,e']
   rw [zeb e,b];exact h2
  ·have e':¬ q.1=k:=fun z=>e (h1.trans z)
   have b:atKey (q :: qs) k=atKey qs k:=by simp [atKey,List.find?_cons,e']
   rw [zel e,b];exact ih
theorem KT.repl {H:Hp} {kvs:List (List Key × V)} {xs:List (List Key × Addr × Value)} (r:KT H kvs xs) (k:List Key) {y:V} {u:Value} (ry:RelV y u) :
  KT H (kvs.map fun kv=>if kv.1=k then (kv.1,y) else kv) (xs.map (putAt k u)):=by
 induction r with
 | nil=>exact .nil
 | @cons p q ps qs h t ih =>
  rw [List.map_cons,List.map_cons]
  refine .cons ?_ ih
  obtain ⟨h1,h2,h3⟩:=h
  unfold putAt
  by_cases e:p.1=k
  ·rw [if_pos e,if_pos (h1.symm.trans e)];exact ⟨h1,h2,ry⟩
  ·rw [if_neg e,if_neg (fun z=>e (h1.trans z))];exact ⟨h1,h2,h3⟩
theorem KT.put {H:Hp} {kvs:List (List Key × V)} {xs:List (List Key × Addr × Value)} (r:KT H kvs xs) (k:List Key) {b:Addr} {y:V} {u:Value} (hb:H b=some (.tup (k.map kV))) (ry:RelV y u) :
  KT H (putK kvs k y) (storedH xs k b u):=by
 have e:(kvs.any fun kv=>decide (kv.1=k))=(atKey xs k).isSome:=by
  rw [zfZ,(r.val k).zgJ,Option.isSome_map]
 unfold putK storedH
 rw [e]
 by_cases q:(atKey xs k).isSome=true
 ·rw [if_pos q,if_pos q];exact r.repl k ry
 ·rw [if_neg q,if_neg q];exact Paired.snoc r ⟨rfl,hb,ry⟩
theorem KT.keeps {H H':Hp} {kvs:List (List Key × V)} {xs:List (List Key × Addr × Value)} (r:KT H kvs xs) (ht:∀ b ys,H b=some (.tup ys)→H' b=some (.tup ys)):KT H' kvs xs :=
 Paired.mapP r fun _ _ z=>⟨z.1,ht _ _ z.2.1,z.2.2⟩
section
variable {P:Program} {w:World} {H:Hp} {h:Heap} {a:Addr}
end
def DGet (H:Hp) (a:Addr) (y:V) (r:Option V):Prop :=
 (∃ kvs k,Rd H a (.dK kvs)∧y=kV k∧r=valV kvs k)∨∃ kvs k b,Rd H a (.dT kvs)∧y = .ref b∧H b=some (.tup (k.map kV))∧r=valV kvs k
def DPut (H:Hp) (a:Addr) (y v:V) (H':Hp):Prop :=
 (∃ kvs k,H a=some (.dK kvs)∧y=kV k∧kvs.length < sizeLine∧H'=upd H a (.dK (putK kvs k v))) ∨
 ∃ kvs k b,H a=some (.dT kvs)∧y = .ref b∧H b=some (.tup (k.map kV))∧kvs.length < sizeLine∧H'=upd H a (.dT (putK kvs k v))
theorem DGet.k {H:Hp} {a:Addr} {kvs:List (Key × V)} {k:Key} (e:H a=some (.dK kvs)):DGet H a (kV k) (valV kvs k) := .inl ⟨kvs,k, .inl e,rfl,rfl⟩
theorem DGet.t {H:Hp} {a b:Addr} {kvs:List (List Key × V)} {k:List Key} (e:H a=some (.dT kvs)) (eb:H b=some (.tup (k.map kV))):DGet H a (.ref b) (valV kvs k) := .inr ⟨kvs,k,b, .inl e,rfl,eb,rfl⟩
theorem DPut.k {H:Hp} {a:Addr} {kvs:List (Key × V)} {k:Key} {v:V} (e:H a=some (.dK kvs)) (hl:kvs.length < sizeLine):DPut H a (kV k) v (upd H a (.dK (putK kvs k v))) := .inl ⟨kvs,k,e,rfl,hl,rfl⟩
theorem DPut.t {H:Hp} {a b:Addr} {kvs:List (List Key × V)} {k:List Key} {v:V} (e:H a=some (.dT kvs)) (eb:H b=some (.tup (k.map kV))) (hl:kvs.length < sizeLine) :
  DPut H a (.ref b) v (upd H a (.dT (putK kvs k v))) := .inr ⟨kvs,k,b,e,rfl,eb,hl,rfl⟩
section
variable {X:Cx} {pins:List (Addr × Obj)} {σ:St} {H:Hp} {s:Shared} {a:Addr} {y v:V} {u r:Value} {o:Option V} {A:Around} {E:Value→Shared→Prop}
end
section
variable {X:Cx} {pins:List (Addr × Obj)} {σ:St} {H:Hp} {s:Shared} {a:Addr} {kvs:List (Key × V)} {k:Key} {u:Value} {A:Around} {E:Value→Shared→Prop}
end
section
variable {X:Cx} {o i e value:Expr} {pos pos' tpos:Pos} {td ty tv:TE}
end
section
variable {X:Cx} {pos:Pos}
end
structure M1 (X:Cx) (o:Expr) (m:Str) (apos:Pos) (e:Expr) (cpos:Pos):Prop where
 base:attributeBase o m X.env (eval o X.env)=eval o X.env
 few:((backTo cpos (starEach [e] X.env)).all (fun x=>!x.1) && (backToKw cpos (keywordEach [] X.env)).all (fun x=>x.1.isSome)
  && decide (([e] : List Expr).length + ([] : List Keyword).length + (if ([] : List Keyword).isEmpty then 0 else 1) < 30))=true
 line:(apos.endLine == cpos.line)=true
 trees:backTo cpos (starEach [e] X.env)=[(false,eval e X.env)]
structure M2 (X:Cx) (o:Expr) (m:Str) (apos:Pos) (e f:Expr) (cpos:Pos):Prop where
 base:attributeBase o m X.env (eval o X.env)=eval o X.env
 few:((backTo cpos (starEach [e,f] X.env)).all (fun x=>!x.1) && (backToKw cpos (keywordEach [] X.env)).all (fun x=>x.1.isSome)
  && decide (([e,f] : List Expr).length + ([] : List Keyword).length + (if ([] : List Keyword).isEmpty then 0 else 1) < 30))=true
 line:(apos.endLine == cpos.line)=true
 trees:backTo cpos (starEach [e,f] X.env)=[(false,eval e X.env),(false,eval f X.env)]
section
variable {X:Cx} {pins:List (Addr × Obj)} {σ:St} {H:Hp} {s:Shared} {a:Addr} {y d:V} {u r:Value} {o:Option V} {A:Around} {E:Value→Shared→Prop}
end
section
variable {X:Cx} {o e f:Expr} {apos cpos:Pos} {td ty tx:TE}
end
section
variable {X:Cx} {pins:List (Addr × Obj)} {σ:St} {H:Hp} {s:Shared} {a:Addr} {kvs:List (Key × V)} {A:Around} {E:Value→Shared→Prop}
end
section
variable {X:Cx} {pins:List (Addr × Obj)} {σ:St} {H:Hp} {s:Shared} {a:Addr} {y:V} {u:Value} {A:Around} {E:Value→Shared→Prop}
end
end L2
namespace Att
open PySem PySem.W PySem.Calls PyProof.Rows
theorem zdE {P:Params} {h:Heap}:∀ (ns:List Int) (vs:List Value),WellAll P h vs (ns.map WData.int)→IntsAre vs ns:=by
 intro ns
 induction ns with
 | nil =>
  intro vs w
  rw [List.map_nil] at w
  cases w
  exact .nil
 | cons n ns ih =>
  intro vs w
  rw [List.map_cons] at w
  cases w with
  | cons a b =>
   cases a
   exact .cons _ _ (ih _ b)
theorem zgO {l:OpenLaw} {n:Nat} (hn:l.most=some n) {P:Params} {h:Heap} {args:List WData} {vals:List Value}
  (hpre:l.row.toRowW.claim.pre args=true) (hwl:WellAll P h vals args) :
  ∃ a vs ns,vals=[Value.ref a]∧args=[WData.list (ns.map WData.int)]∧h.get? a=some { cls := .type "list",data := .seq vs.toArray }∧IntsAre vs ns∧ns.length ≤ n:=by
 have hsh:WShape.hasAll [] args [.list .int]=true:=(pre_splitW hpre).1
 have hc:l.pre.holds [] { args:=args }=true:=(pre_splitW hpre).2
 obtain ⟨d,r,rfl,h1,h2⟩:=hasAllW_cons hsh
 obtain rfl:=hasAllW_nil h2
 obtain ⟨xs,rfl,h3⟩:=hasW_list h1
 obtain ⟨ns,rfl⟩:=items_int h3
 have hlen:ns.length ≤ n:=by
  unfold OpenLaw.pre at hc
  have h4:(WTm.not (.lt (.lit (.int (n:Int))) (.len (.arg 0)))).holds [] { args:=[.list (ns.map .int)] }=true:=by
   have h4:=(holds_andW hc).1
   rw [hn] at h4
   exact h4
  have h5:=condW_of h4 (w_not (w_lt w_lit (w_len_list (w_arg rfl))))
  rw [List.length_map] at h5
  refine Nat.le_of_not_lt fun q=>?_
  have q':(n:Int) < ((ns.length:Nat):Int):=by omega
  first
   | (rw [decide_eq_true q'] at h5;exact absurd h5 (by decide))
   | (simp at h5;omega)
 cases hwl with
 | cons w1 w2 =>
  cases w2
  cases w1 with
  | list ho hall=>exact ⟨_,_,ns,rfl,rfl,ho,zdE ns _ hall,hlen⟩
theorem zhn (l:OpenLaw) (args:List WData):l.row.toRowW.claim.post args (.bool true) args=true :=
 postW_of (r:=l.row.toRowW) (X:=(true == true))
  (show WShape.has [] (.bool true) .bool=true by first | rfl | decide | simp [WShape.has,WShape.arms,WShape.armsAll])
  (show (WTm.eq .res (.lit (.bool true))).value [] { args:=args,res:=some (.bool true),after:=args }=some (.bool (true == true)) from w_eq_bool (w_res rfl) w_lit) rfl
theorem zfC {l:OpenLaw} {n:Nat} {q:Program} {loose:List Str} {XP:(Str→Option Value)→Heap→Prop} {YP:World→Heap→Prop} {d:DefRec}
  (hn:l.most=some n) (hdf:d.params.defaults=[])
  (call:∀ (w:World) (s₀ s₁:Shared) (mg mb:Str→Option Value) (fa:Addr) (o:Obj) (pm cd doc:Value) (a:Addr) (vs:List Value) (ns:List Int),
   Ground q loose [] XP w s₀ mg mb s₁.heap→YP w s₁.heap →
   s₁.heap.get? fa=some o→o.data = .func (docDef d.name d.params d.body d.scope pm cd doc)→s₁.heap.CodeRec cd d.name→mg d.name=some (.ref fa) →
   s₁.heap.get? a=some { cls := .type "list",data := .seq vs.toArray }→IntsAre vs ns→ns.length ≤ n→s₁.gens = #[] →
   codeAny (model l.prog w) callerA (.call (.ref fa) ⟨[.ref a],[]⟩) (fun r s'=>r = .ok (.ret (.bool true))∧OldK s₁.heap s'.heap∧s'.os=s₁.os∧AllBare s'.gens) s₁) :
  WalkO q loose XP YP l.row.toRowW d [] (fun f vs=>PySem.call f vs):=by
 intro w s₀ s₁ mg mb G Y fa o pm cd doc dV kV ho hd hcd hD hmg hg args vals as hpre hlay hrd hwl hlo
 obtain rfl:dV = .none:=Dflts.none hD hdf
 obtain rfl:kV = .none:=Dflts.noKw hD
 obtain ⟨a,vs,ns,rfl,rfl,hobj,hints,hlen⟩:=zgO hn hpre hwl
 refine enter_call (codeAny_mono (call w s₀ s₁ mg mb fa o pm cd doc a vs ns G Y ho (fd_plain hd) hcd hmg hobj hints hlen hg) fun r s' hq=>?_)
 obtain ⟨rfl,h2,h3,h4⟩:=hq
 exact ⟨.inl ⟨.bool true, .bool true,[],rfl,fun _=>rfl, .bool true,zhn l _,fun _=>⟨List.Pairwise.nil,fun _ hm=>(nomatch hm)⟩⟩,h2,h3,h4⟩
section
variable {prog:Program} {w:World} {A:Around} {E:Value→Shared→Prop} {s:Shared} {K:Frag}
def ledger (h:Heap) (L d:Addr):List (Addr × Obj):=(List.range h.objs.size).filterMap fun a=>if a=L∨a=d then none else (h.get? a).map fun o=>(a,o)
end
end Att
namespace L2
open PySem PySem.Spec PyProof.Rows
theorem zfd:∀ {vs:List Value} {ns:List Int},IntsAre vs ns→Vals (ns.map V.int) vs
 | _,_, .nil => .nil
 | _,_, .cons n t h => .cons ⟨t,rfl⟩ (zfd h)
def Only (H:Hp):Prop:=∀ b,H b=none∨∃ o xs,H b=some (.frz o (.lst xs))
theorem ziJ {P:Program} {w:World} {K:PySem.W.Frag} {mg mb:Str→Option Value} {CX:CXT} {k:Nat} {fa a:Addr} {fd:FuncData} {x:Str} {sp:Sp} {s₁:Shared} {vs:List Value} {ns:List Int}
  (KX:K.In s₁.heap) (hns:s₁.heap.Ns mainGlobals mg) (hb:s₁.heap.Ns builtinsNs mb) (hbb:∀ x:Str,x ≠ "__name__"→mb x=bootBuiltins x) (hlim:s₁.heap.NoLimit) (hg:s₁.gens = #[])
  (ha:s₁.heap.get? a=some { cls := .type "list",data := .seq vs.toArray }) (hi:IntsAre vs ns) (hl:ns.length ≤ sizeLine) (hr:Room k callerA)
  (F:∀ base:Heap,K.In base→base.Ns mainGlobals mg→FnOk P w K mg base CX k fa fd [x] sp) (hbind:∀ (s:Shared) (u:Value),BindsTo s fd ⟨[u],[]⟩ [(x,u)])
  (hsp:∀ H:Hp,Only H→SqL K H a (ns.map V.int)→sp [.ref a] H (fun v _=>v = .bl true) fun _ _ _=>False)
  (hCX:∀ H e s',CX [] H s₁ (fun _ _ _=>False) e s'→False) :
  codeAny (model P w) callerA (.call (.ref fa) ⟨[.ref a],[]⟩) (fun r s'=>r = .ok (.ret (.bool true))∧OldK s₁.heap s'.heap∧s'.os=s₁.os∧AllBare s'.gens) s₁:=by
 have rv:=zfd hi
 have lenV:=hi.length
 have core:∀ H:Hp,Only H→SqL K H a (ns.map V.int)→HOk P w H s₁.heap→(∀ b,H b ≠ none→b=a)→(H a ≠ none→K.lookup a=none) →
   codeAny (model P w) callerA (.call (.ref fa) ⟨[.ref a],[]⟩) (fun r s'=>r = .ok (.ret (.bool true))∧OldK s₁.heap s'.heap∧s'.os=s₁.os∧AllBare s'.gens) s₁:=by
  intro H hO hS hok hA hK
  have base_of:∀ {b:Addr} {o:Obj},s₁.heap.get? b=some o→H b=none→(hidT s₁.heap H).get? b=some o:=fun e n=>ziM e n
  have noA:∀ {b:Addr} {o:Obj} {es:Array DictEntry} {ep:Nat},s₁.heap.get? b=some o→o.data = .dict es ep→H b=none:=fun {b o es ep} e d=>by
   cases q:H b with
   | none=>rfl
   | some u =>
    have e':b=a:=hA b (by rw [q];simp)
    subst e'
    rw [ha] at e;cases e
    have d':Data.seq vs.toArray _=Data.dict es ep:=d
    cases d'
  have nsK:∀ {b:Addr} {m:Str→Option Value},s₁.heap.Ns b m→(hidT s₁.heap H).Ns b m:=fun {b m} ⟨o,es,ep,e,d,r⟩=>⟨o,es,ep,base_of e (noA e d),d,r⟩
  have hKb:K.In (hidT s₁.heap H):=fun b o e=>base_of (KX b o e) (by
   cases q:H b with
   | none=>rfl
   | some u =>
    have e':b=a:=hA b (by rw [q];simp)
    subst e'
    rw [hK (by rw [q];simp)] at e;cases e)
  have hM:Mod K mg (hidT s₁.heap H):=⟨hKb,nsK hns,⟨mb,nsK hb,hbb⟩,let ⟨mc,h1,h2⟩:=hlim; ⟨mc,nsK h1,h2⟩⟩
  have e0:Env0 P w K mg (hidT s₁.heap H) callerA [] s₁ H:=⟨rfl,hM,fun b o e=>zj1 e,Nat.le_of_eq (zhh _ _),trivial,fun b hb=>absurd (show b ∈ ([] : List Addr) from hb) (by simp),hok, .of_eq hg⟩
  refine codeAny_mono ((F _ hKb (nsK hns)).run callerA [] s₁ H ⟨[.ref a],[]⟩ [.ref a] [.ref a] _ _ hr e0 (hbind s₁ (.ref a)) (.cons rfl .nil) (hsp H hO hS)) fun r s' h=>?_
  cases r with
  | error e=>exact (hCX H e s' h).elim
  | ok fl =>
   cases fl with
   | next=>exact False.elim h
   | brk=>exact False.elim h
   | cont=>exact False.elim h
   | ret u =>
    obtain ⟨v,H',os,bare,un,hok',r',q⟩:=h
    have q':v = .bl true:=q
    subst q'
    obtain rfl:u=Value.bool true:=r'
    refine ⟨rfl,OldK.of_keep fun b o e=>?_,os,bare⟩
    cases q:H b with
    | none=>exact un.keep b o e q (by intro z;exact absurd (show b ∈ ([] : List Addr) from z) (by simp)) (by simp)
    | some u =>
     rcases hO b with z | ⟨ob,xs,z⟩
     ·rw [q] at z;cases z
     ·have z2:=un.frzs b ob _ z
      obtain ⟨e1,_⟩:=hok b _ z
      obtain ⟨e2,_⟩:=hok' b _ z2
      rw [e] at e1;cases e1
      exact e2
 cases hk:K.lookup a with
 | some o =>
  have e:=KX a o hk
  rw [ha] at e
  cases e
  refine core (fun _=>none) (fun _ => .inl rfl) (.inr ⟨_,vs.toArray,_,hk,rfl,rfl,rfl,by rw [List.size_toArray,lenV];exact hl,by simpa using rv⟩) (fun b u z=>by have z':(none:Option HO)=some u:=z;cases z') (fun b z=>absurd rfl z) fun z=>absurd rfl z
 | none =>
  refine core (fun b=>if b=a then some (.frz { cls := .type "list",data := .seq vs.toArray } (.lst (ns.map V.int))) else none) (fun b=>?_) (.inl (.inr ⟨{ cls := .type "list",data := .seq vs.toArray },if_pos rfl⟩)) (fun b u z=>?_) (fun b z=>?_) fun _=>hk
  ·by_cases hb:b=a
   ·exact .inr ⟨_,_,if_pos hb⟩
   ·exact .inl (if_neg hb)
  ·by_cases hb:b=a
   ·have z':=(if_pos hb).symm.trans z
    cases z'
    subst hb
    exact ⟨ha,by rw [List.length_map];exact hl,vs,_,rv,ha⟩
   ·have z':=(if_neg hb).symm.trans z
    cases z'
  ·by_cases hb:b=a
   ·exact hb
   ·exact absurd (if_neg hb) z
end L2
namespace L2
open PySem PySem.Spec PyProof.Rows
theorem zjM {l:PySem.W.OpenLaw} {n k:Nat} {q:Program} {loose:List Str} {XP:(Str→Option Value)→Heap→Prop} {YP:World→Heap→Prop} {d:DefRec} {K:Params→PySem.W.Frag} {CX:World→CXT} {sp:World→Sp} {x:Str}
  (hn:l.most=some n) (hn2:n ≤ sizeLine) (hdf:d.params.defaults=[]) (hr:Room k callerA)
  (hY:∀ (w:World) (h:Heap),YP w h→(K w.params).In h)
  (F:∀ (w:World) (mg:Str→Option Value) (fa:Addr) (h:Heap),(K w.params).In h→h.Ns mainGlobals mg→mg d.name=some (.ref fa) →
   ∃ fd:FuncData,(∀ (s:Shared) (u:Value),BindsTo s fd ⟨[u],[]⟩ [(x,u)]) ∧
    ∀ base:Heap,(K w.params).In base→base.Ns mainGlobals mg→FnOk l.prog w (K w.params) mg base (CX w) k fa fd [x] (sp w))
  (hsp:∀ (w:World) (H:Hp) (a:Addr) (ns:List Int),ns.length ≤ n→Only H→SqL (K w.params) H a (ns.map V.int)→sp w [.ref a] H (fun v _=>v = .bl true) fun _ _ _=>False)
  (hCX:∀ (w:World) (H:Hp) (s:Shared) (e:Value) (s':Shared),CX w [] H s (fun _ _ _=>False) e s'→False) :
  PySem.W.WalkO q loose XP YP l.row.toRowW d [] (fun f vs=>PySem.call f vs):=by
 refine Att.zfC hn hdf fun w s₀ s₁ mg mb fa o pm cd doc a vs ns G Y ho hd hcd hmg hobj hints hlen hg=>?_
 have KX:=hY w _ Y
 obtain ⟨fd,hb,hF⟩:=F w mg fa _ KX G.T.g hmg
 exact ziJ KX G.T.g G.T.b G.T.builtins G.T.nolimit hg hobj hints (Nat.le_trans hlen hn2) hr hF hb (fun H hO hS=>hsp w H a ns hlen hO hS) fun H e s'=>hCX w H s₁ e s'
end L2
namespace L2
open PySem PySem.Spec PyProof.Rows
def inClass (s:Stmt) (j:Nat):Stmt:=match s with
 | .ClassDef _ _ _ body _ _ _ _ _ _ _=>body.getD j (.Pass ⟨0,0,0,0⟩)
 | _ => .Pass ⟨0,0,0,0⟩
def zax (s:Stmt):Arguments:=match s with
 | .FunctionDef _ a _ _ _ _ _ _ _ _=>a
 | _=>{ posonlyargs:=[],args:=[],vararg:=none,kwonlyargs:=[],kw_defaults:=[],kwarg:=none,defaults:=[] }
def zal (s:Stmt):List Stmt:=match s with
 | .FunctionDef _ _ b _ _ _ _ _ _ _=>b
 | _=>[]
def zab (s:Stmt):Scope:=match s with
 | .FunctionDef _ _ _ _ _ _ sc _ _ _=>sc
 | _=>{ kind := .function,names:=[],isGenerator:=false,isCoroutine:=false }
abbrev CX0:CXT:=fun _ _ _ _ _ _=>False
abbrev E0:XK:=fun _ _ _=>False
theorem zmd {X:Cx}:Passes CX0 X E0:=fun _ _ _ _ _ _ _ h=>h.elim
structure Fun (K:PySem.W.Frag) (x qual:Str) (st:Stmt) (f:Addr) (fd:FuncData):Prop where
 ex:∃ (oc:Value) (od:Option Addr) (kV doc pm:Value) (an:Option Addr) (cdv ct:Value) (osl:Array (Option Value)),
  fd=PySem.W.fnOf x qual (zax st) (zal st) (zab st) .none kV doc pm an cdv ct∧K.lookup f=some ⟨oc,od, .func fd,osl⟩∧PySem.W.codeIn K cdv qual=true
 kp:PySem.W.keepIn K (.ref f)=true
section
variable {P:Program} {w:World} {K:PySem.W.Frag} {mg:Str→Option Value} {base:Heap}
theorem Fun.ok {x qual:Str} {st:Stmt} {f:Addr} {fd:FuncData} {N ps:List Str} {k:Nat} {sp:Sp} (F:Fun K x qual st f fd) (S:zaw N ps (zab st)) (len:∀ vs H Q E,sp vs H Q E→vs.length=ps.length)
  (hbody:∀ (cdv:Value) (A:Around) (outer:List Env) (s:Shared) (H:Hp) (vs:List V) (Q:VK) (E:XK),Room k (A.deeper (envOfC qual (zab st) s.heap.objs.size f cdv))→sp vs H Q E →
   ∃ t,PSs (cxOf CX0 P w K mg base N qual (zab st) f cdv A outer s H E).nox (zal st) t∧t { nx:=fun _ H'=>Q .non H',rt:=Q } (start N vs) H):FnOk P w K mg base CX0 (k + 1) f fd ps sp:=by
 obtain ⟨oc,od,kV,doc,pm,an,cdv,ct,osl,rfl,lk,hcd⟩:=F.ex
 refine ziI lk hcd S len fun A outer s H vs Q E hr hsp=>?_
 obtain ⟨t,h,q⟩:=hbody cdv A outer s H vs Q E hr hsp
 exact ⟨t,h.nox,q⟩
theorem Fun.binds {x qual:Str} {st:Stmt} {f:Addr} {fd:FuncData} {ps:List Str} (F:Fun K x qual st f fd)
  (h:∀ (kV doc pm:Value) (an:Option Addr) (cdv ct:Value) (us:List Value),us.length=ps.length→bindArgs (PySem.W.fnOf x qual (zax st) (zal st) (zab st) .none kV doc pm an cdv ct) ⟨us,[]⟩ = pure (ps.zip us)):Binds K fd ps []:=by
 obtain ⟨oc,od,kV,doc,pm,an,cdv,ct,osl,rfl,lk,hcd⟩:=F.ex
 exact .all (h kV doc pm an cdv ct)
theorem zd8 {x qual:Str} {st:Stmt} {f:Addr} {oc:Value} {od an:Option Addr} {osl:Array (Option Value)} {kV doc pm cdv ct:Value} (l:K.lookup f=some ⟨oc,od, .func (PySem.W.fnOf x qual (zax st) (zal st) (zab st) .none kV doc pm an cdv ct),osl⟩)
  (c:PySem.W.codeIn K cdv qual=true) (k:PySem.W.keepIn K (.ref f)=true):Fun K x qual st f (PySem.W.fnOf x qual (zax st) (zal st) (zab st) .none kV doc pm an cdv ct):=⟨⟨oc,od,kV,doc,pm,an,cdv,ct,osl,rfl,l,c⟩,k⟩
end
section
variable {X:Cx}
end
def Same (H H':Hp):Prop:=∀ b o,H b=some o→H' b=some o
theorem Same.refl (H:Hp):Same H H:=fun _ _ h=>h
theorem Same.trans {H H1 H2:Hp} (a:Same H H1) (b:Same H1 H2):Same H H2:=fun c o h=>b c o (a c o h)
theorem Same.free {H H':Hp} (e:Same H H') {l:Addr} (h:H' l=Option.none):H l=Option.none:=by
 cases q:H l with
 | none=>rfl
 | some o =>
  rw [e l o q] at h
  cases h
theorem Same.seq {K:PySem.W.Frag} {H H':Hp} {a:Addr} {xs:List V} (e:Same H H') (h:SqL K H a xs):SqL K H' a xs:=by
 rcases h with (h | ⟨o,h⟩) | h
 ·exact .inl (.inl (e _ _ h))
 ·exact .inl (.inr ⟨o,e _ _ h⟩)
 ·exact .inr h
section
variable {κ:Type} [DecidableEq κ]
end
end L2
namespace L2
open PySem
theorem zfp (env:Env):∀ (names:List (Str × NameKind)) (cs:List (Str × Addr)),(∀ y ∈ names,y.2 = .free→∃ c,env.cells.lookup y.1=some c) →
  ∃ cl,(forIn names cs (fun (x:Str × NameKind) (cs:List (Str × Addr))=>(match x with | (name,kind)=>if (kind == NameKind.free)=true then (do let c ← cellOf env name;pure (ForInStep.yield ((name,c) :: cs))) else pure (ForInStep.yield cs))):Sem (List (Str × Addr)))=pure cl ∧
   (∀ x c,cl.lookup x=some c→cs.lookup x=some c∨env.cells.lookup x=some c)∧(∀ y ∈ names,y.2 = .free→∃ c,cl.lookup y.1=some c)∧(∀ x c,cs.lookup x=some c→∃ c',cl.lookup x=some c')
 | [],cs,_=>⟨cs,rfl,fun _ _ h => .inl h,fun _ h=>(nomatch h),fun _ c h=>⟨c,h⟩⟩
 | (n,k) :: r,cs,h=>by
  by_cases hk:k = .free
  ·subst hk
   obtain ⟨c,hc⟩:=h (n, .free) (List.mem_cons_self ..) rfl
   obtain ⟨cl,e,h1,h2,h3⟩:=zfp env r ((n,c) :: cs) fun y hy=>h y (List.mem_cons_of_mem _ hy)
   refine ⟨cl,?_,fun x d hd=>?_,fun y hy hf=>?_,fun x d hd=>?_⟩
   ·rw [List.forIn_cons]
    simp only [beq_self_eq_true,if_true,cellOf,hc,pure_bind]
    exact e
   ·rcases h1 x d hd with q | q
    ·rw [List.lookup_cons] at q
     split at q
     ·rename_i hx
      have hx':x=n:=by simpa using hx
      subst hx'
      exact .inr (hc.trans q)
     ·exact .inl q
    ·exact .inr q
   ·rcases List.mem_cons.mp hy with e' | e'
    ·subst e'
     exact h3 n c (by simp)
    ·exact h2 y e' hf
   ·by_cases hx:x=n
    ·subst hx
     exact h3 x c (by simp)
    ·have hb:(x == n)=false:=by simpa using hx
     exact h3 x d (by rw [List.lookup_cons,hb];exact hd)
  ·obtain ⟨cl,e,h1,h2,h3⟩:=zfp env r cs fun y hy=>h y (List.mem_cons_of_mem _ hy)
   have hb:(k == NameKind.free)=false:=by simpa using hk
   refine ⟨cl,?_,h1,fun y hy hf=>?_,h3⟩
   ·rw [List.forIn_cons]
    simp only [hb,Bool.false_eq_true,if_false,pure_bind]
    exact e
   ·rcases List.mem_cons.mp hy with e' | e'
    ·subst e';exact absurd hf hk
    ·exact h2 y e' hf
theorem zey {scope:Scope} {env:Env} (h:∀ y ∈ scope.names,y.2 = .free→∃ c,env.cells.lookup y.1=some c) :
  ∃ cl,closureFor scope env=pure cl∧(∀ x c,cl.lookup x=some c→env.cells.lookup x=some c)∧∀ y ∈ scope.names,y.2 = .free→∃ c,cl.lookup y.1=some c:=by
 obtain ⟨cl,e,h1,h2,_⟩:=zfp env scope.names [] h
 refine ⟨cl,?_,fun x c hc=>(h1 x c hc).resolve_left (by simp),h2⟩
 unfold closureFor
 refine Eq.trans (congrArg (fun m=>m >>= fun cs=>pure cs) e) ?_
 rfl
section
variable {prog:Program} {w:World} {A:Around} {E:Value→Shared→Prop} {s:Shared}
end
end L2
namespace L2
open PySem PySem.Spec PyProof.Rows
section
variable {prog:Program} {w:World} {A:Around} {R:Result→Shared→Prop} {s:Shared}
theorem ze8 {elt target iter:Expr} {ifs:List Expr} {scope:Scope} {pos:Pos} {it acc:Value} {env:Env} (I:Nat→Shared→Prop)
  (turn:∀ n s,I n s→wpAny (model prog w) A (pyNext it) (fun r s₁=>match r with
   | none=>R (.ok .next) s₁
   | some v=>wpAny (model prog w) A (letOwnedTupleGo target it v) (fun _ s₁'=>wpAny (model prog w) A (assign target env v) (fun _ s₂ =>
     wpAny (model prog w) A (forIn ifs true fun c r=>if r=true then do let ok ← isTrue c env (eval c env);pure (ForInStep.yield ok) else pure (ForInStep.yield r)) (fun ok s₃ =>
      if ok=true then wpAny (model prog w) A (eval elt env) (fun x s₄ =>
       wpAny (model prog w) A (call (.builtin "list.append") [acc,x]) (fun _ s₅=>∃ m,m < n∧I m s₅) (fun _ _=>False) s₄) (fun _ _=>False) s₃
      else ∃ m,m < n∧I m s₃) (fun _ _=>False) s₂) (fun _ _=>False) s₁') (fun _ _=>False) s₁) (fun _ _=>False) s)
  (n:Nat) (h:I n s) :
  codeAny (model prog w) A (.compLoop (.ListComp elt [⟨target,iter,ifs,0⟩] scope pos) 0 it acc env) R s:=by
 refine codeAny_loop rfl I (fun n s hI=>?_) n h
 show wpAny _ A ((compTurn (.ListComp elt [⟨target,iter,ifs,0⟩] scope pos) 0 it acc env).onRaise (fun x=>do noteFrame x env;theTreesLotGoes x)) _ _ s
 refine wpAny_noted ?_
 rw [compTurn_list]
 refine wpAny_bind (wpAny_standAt (wpAny_bind (wpAny_mono (turn n s hI) (fun r s₁ h₁=>?_) fun _ _ h'=>h'.elim)))
 cases r with
 | none=>exact wpAny_pure h₁
 | some v =>
  refine wpAny_bind (wpAny_mono h₁ (fun _ s₁' h₁'=>?_) fun _ _ h'=>h'.elim)
  refine wpAny_bind (wpAny_mono h₁' (fun _ s₂ h₂=>wpAny_bind (wpAny_mono h₂ (fun ok s₃ h₃=>?_) fun _ _ h'=>h'.elim)) fun _ _ h'=>h'.elim)
  cases ok with
  | false=>exact wpAny_pure ⟨rfl,h₃⟩
  | true =>
   exact wpAny_bind (wpAny_bind (wpAny_mono h₃ (fun x s₄ h₄=>wpAny_bind (wpAny_mono h₄ (fun _ s₅ h₅=>wpAny_pure (wpAny_pure ⟨rfl,h₅⟩)) fun _ _ h'=>h'.elim)) fun _ _ h'=>h'.elim))
end
def PIf (X:Cx) (ifs:List Expr) (t:TT):Prop :=
 ∀ (pins:List (Addr × Obj)) (s:Shared) (σ:St) (H:Hp) (Q:Bool→Hp→Prop),Inv X pins σ H s→t σ H Q →
  wpAny (model X.prog X.w) X.A (forIn ifs true fun c r=>if r=true then do let ok ← isTrue c X.env (eval c X.env);pure (ForInStep.yield ok) else pure (ForInStep.yield r)) (TP X pins σ Q) X.xe s
theorem zjE {X:Cx} {c:Expr} {t:TT} (h:PT X c t):PIf X [c] t:=fun pins s σ H Q I q=>wpAny_tests_one (h pins s σ H Q I q)
def lcCx (X:Cx) (scope:Scope) (ls:List Str) (js:List Nat) (cl:List (Str × Addr)) (C:Addr) (s:Shared) (H:Hp) (fp:List Addr):Cx :=
 { X with N:=ls ++ js.map (fun j=>X.N.getD j Str.empty),s₀:=s,H₀:=H,env:=compEnvC scope cl C X.env,outer:=X.stack,ex:=fp,fn:=fun _=>false,xe:=fun _ _=>False }
def lcSt (ls:List Str) (js:List Nat) (σ:St):St:=ls.map (fun _=>none) ++ js.map (fun j=>(σ[j]?).join)
def gk (env:Env) (n:Str) (k:NameKind):NameKind:=if (k == NameKind.free && env.scope.kind == .function && env.kindOf n == some .cell)=true then .cell else k
theorem zf4 (env:Env) (names:List (Str × NameKind)):(names.map fun (n,k)=>if (k == NameKind.free && env.scope.kind == .function && env.kindOf n == some .cell) then (n,NameKind.cell) else (n,k))=names.map fun p=>(p.1,gk env p.1 p.2):=by
 refine List.map_congr_left fun p _=>?_
 obtain ⟨n,k⟩:=p
 show (if (k == NameKind.free && env.scope.kind == .function && env.kindOf n == some .cell)=true then (n,NameKind.cell) else (n,k))=(n,gk env n k)
 unfold gk
 split <;> rfl
theorem zc0 (env:Env) (x:Str):∀ names:List (Str × NameKind),(names.map fun p=>(p.1,gk env p.1 p.2)).lookup x=(names.lookup x).map (gk env x)
 | []=>rfl
 | (n,k) :: r=>by
  rw [List.map_cons]
  cases hx:x == n with
  | true =>
   have e:x=n:=by simpa using hx
   subst e
   rw [List.lookup_cons,List.lookup_cons]
   simp
  | false =>
   rw [List.lookup_cons,List.lookup_cons]
   simp only [hx]
   exact zc0 env x r
theorem lookup_mem {x:Str} {k:NameKind}:∀ {names:List (Str × NameKind)},names.lookup x=some k→(x,k) ∈ names
 | [],h=>by simp at h
 | (n,k') :: r,h=>by
  rw [List.lookup_cons] at h
  cases hx:x == n with
  | true =>
   have e:x=n:=by simpa using hx
   subst e
   simp only [beq_self_eq_true] at h
   cases h
   exact List.mem_cons_self ..
  | false =>
   simp only [hx] at h
   exact List.mem_cons_of_mem _ (lookup_mem h)
theorem zaZ {env:Env} {names:List (Str × NameKind)} {x:Str} (h:names.lookup x=some .free) :
  (names.map fun (n,k)=>if (k == NameKind.free && env.scope.kind == .function && env.kindOf n == some .cell) then (n,NameKind.cell) else (n,k)).lookup x=some .cell ∨
  (names.map fun (n,k)=>if (k == NameKind.free && env.scope.kind == .function && env.kindOf n == some .cell) then (n,NameKind.cell) else (n,k)).lookup x=some .free:=by
 rw [zf4,zc0,h]
 show some (gk env x .free)=some .cell∨some (gk env x .free)=some .free
 unfold gk
 split
 ·exact .inl rfl
 ·exact .inr rfl
theorem zcp {env:Env} {names:List (Str × NameKind)} {x:Str} (hc:∀ y ∈ names,y.2 ≠ .cell)
  (h:(names.map fun (n,k)=>if (k == NameKind.free && env.scope.kind == .function && env.kindOf n == some .cell) then (n,NameKind.cell) else (n,k)).lookup x=some .cell ∨
   (names.map fun (n,k)=>if (k == NameKind.free && env.scope.kind == .function && env.kindOf n == some .cell) then (n,NameKind.cell) else (n,k)).lookup x=some .free):(x,NameKind.free) ∈ names:=by
 rw [zf4,zc0] at h
 cases e:names.lookup x with
 | none=>rw [e] at h;rcases h with h | h <;> cases h
 | some k =>
  have hm:=lookup_mem e
  by_cases hk:k = .free
  ·rw [hk] at hm;exact hm
  ·rw [e] at h
   have hg:gk env x k=k:=by
    unfold gk
    have hb:(k == NameKind.free)=false:=by simpa using hk
    rw [hb]
    rfl
   have h':gk env x k = .cell∨gk env x k = .free:=h.imp (fun z=>Option.some.inj z) fun z=>Option.some.inj z
   rw [hg] at h'
   rcases h' with z | z
   ·exact absurd z (hc _ hm)
   ·exact absurd z hk
structure LcOk (X:Cx) (scope:Scope) (ls:List Str) (js:List Nat):Prop where
 kind:scope.kind = .function
 cell:∀ y ∈ scope.names,y.2 ≠ .cell
 names:∀ y ∈ scope.names,y.2 = .local→scope.names.lookup y.1=some .local
 free:∀ y ∈ scope.names,y.2 = .free→X.env.kindOf y.1=some .cell∨X.env.kindOf y.1=some .free
 cap:∀ j ∈ js,∃ x,X.N[j]? = some x∧scope.names.lookup x=some .free
section
variable {X:Cx} {pins:List (Addr × Obj)} {σ:St} {H:Hp} {s:Shared}
theorem zkh {scope:Scope} {ls:List Str} {js:List Nat} {cl:List (Str × Addr)} {C:Addr} {fp:List Addr} (L:LcOk X scope ls js) (I:Inv X pins σ H s)
  (h1:∀ x c,cl.lookup x=some c→X.env.cells.lookup x=some c) (h2:∀ y ∈ scope.names,y.2 = .free→∃ c,cl.lookup y.1=some c)
  {s':Shared} {H':Hp} (hC:s'.heap.objs.size ≤ C) (bs:∀ b o,X.base.get? b=some o→s'.heap.get? b=some o∧H' b=none) (bsz:X.base.objs.size ≤ s'.heap.objs.size)
  (funs:s'.heap.FunFrames X.base X.stack) (frf:∀ b ∈ frs X.stack,H' b=none)
  (exf:∀ b ∈ fp,b ≠ C∧∀ x c,X.env.cells.lookup x=some c→c ≠ b) (noex:∀ b o,X.base.get? b=some o→b ∉ fp) (exfs:∀ b ∈ fp,b ∉ frs X.stack) :
  (lcCx X scope ls js cl C s' H' fp).Ok where
 mod:=I.ok.mod
 kind:=L.kind
 glob:=I.ok.glob
 blt:=I.ok.blt
 above:=hC
 inj:=fun x y c a b=>I.ok.inj x y c (h1 x c a) (h1 y c b)
 has:=fun x hx=>h2 (x, .free) (zcp (env:=X.env) L.cell hx) rfl
 cab:=fun x c z=>by cases z
 hd:=I.ok.hd
 frames:=I.ok.frames
 stk := .inl rfl
 exf:=fun b hb=>⟨(exf b hb).1,fun x c e=>(exf b hb).2 x c (h1 x c e)⟩
 bs:=bs
 bsz:=bsz
 noex:=noex
 exfs:=exfs
 funs:=funs
 frf:=frf
theorem ziO {ls:List Str} {js:List Nat} {i:Nat} {v:V} (h:(lcSt ls js σ)[i]? = some (some v)):∃ k j,i=ls.length + k∧js[k]? = some j∧σ[j]? = some (some v):=by
 unfold lcSt at h
 by_cases hi:i < ls.length
 ·rw [List.getElem?_append_left (by simpa using hi),List.getElem?_map] at h
  cases e:ls[i]? with
  | none=>rw [e] at h;cases h
  | some y=>rw [e] at h;cases h
 ·rw [List.getElem?_append_right (by simpa using Nat.le_of_not_lt hi),List.getElem?_map,List.length_map] at h
  cases e:js[i - ls.length]? with
  | none=>rw [e] at h;cases h
  | some j =>
   rw [e] at h
   refine ⟨i - ls.length,j,by omega,e,?_⟩
   have h':(σ[j]?).join=some v:=Option.some.inj h
   cases q:σ[j]? with
   | none=>rw [q] at h';cases h'
   | some o =>
    rw [q] at h'
    exact congrArg some h'
def LcR (ls:List Str) (js:List Nat) (g:TG) (tc:TT) (te:TE) (σ:St) (Q:VK) (J:It) (H1:Hp):Prop:=∀ D,H1 D=none →
 ∃ W:Nat→Nat→St→Hp→Prop,(∃ m,W 0 m (lcSt ls js σ) (upd H1 D (.lst [])))∧∀ i m σ' H',W i m σ' H' →
  (J.stop i H'∧Q (.ref D) H')∨(J.go i H'∧∃ N:St→Hp→Prop,(∀ σ2 H2,N σ2 H2→∃ m',m' < m∧W (i + 1) m' σ2 H2) ∧
   ∀ x H2,J.yld i H' x H2→g x σ' H2 fun σ3 H3=>tc σ3 H3 fun c H4=>if c=true then te σ3 H4 fun y H5=>∃ ys,H5 D=some (.lst ys)∧ys.length < sizeLine∧N σ3 (upd H5 D (.lst (ys ++ [y]))) else N σ3 H4)
def tLC (ls:List Str) (js:List Nat) (wi:TI) (g:TG) (tc:TT) (te:TE):TE:=fun σ H Q=>wi σ H (LcR ls js g tc te σ Q)
theorem zmA {elt tg iter:Expr} {ifs:List Expr} {scope:Scope} {pos:Pos} {ls:List Str} {js:List Nat} {wi:TI} {g:TG} {tc:TT} {te:TE} (hc:X.calm=true) (L:LcOk X scope ls js) (hi:PI X tg iter wi)
  (hb:∀ cl C s H fp,PG (lcCx X scope ls js cl C s H fp) tg g∧PIf (lcCx X scope ls js cl C s H fp) ifs tc∧PE (lcCx X scope ls js cl C s H fp) elt te)
  (hs:∀ x,foldedSetIterable iter X.env x=pure x:=by intro _;rfl):PE X (.ListComp elt [⟨tg,iter,ifs,0⟩] scope pos) (tLC ls js wi g tc te):=by
 intro pins s σ H Q I h
 obtain ⟨cl,hcl,hk1,hk2⟩:=zey (scope:=scope) (env:=X.env) fun y hy hf=>I.ok.has y.1 (L.free y hy hf)
 rw [eval_ListComp]
 refine wpAny_comprehension_free (use:=none) rfl hs hcl L.kind L.names (thn (hi pins s σ H _ I h) fun v s1 h1=>thn h1 fun itv s2 h2=>?_)
 obtain ⟨it,fp,tn,J,H1,e,I2,T,st2,f2,h2⟩:=h2
 subst e
 refine wpAny_newObj_type (wpAny_newFunctionEnv L.cell (by intro y hy;simp at hy) (fun h₁ hns₁ hsb₁=>?_) L.kind)
 dsimp only at hns₁ hsb₁ ⊢
 generalize hH2:s2.heap.push { cls := .type "list",dict:=none,data := .seq ([] : List Value).toArray }=G2 at hns₁ hsb₁ ⊢
 have hCz:G2.objs.size=s2.heap.objs.size + 1:=by rw [← hH2,Heap.size_push]
 have hD0:H1 s2.heap.objs.size=none:=I2.hok.fresh (Nat.le_refl _)
 have hC0:H1 G2.objs.size=none:=I2.hok.fresh (by omega)
 have hDC:s2.heap.objs.size ≠ G2.objs.size:=by omega
 have hG2D:G2.get? s2.heap.objs.size=some { cls := .type "list",dict:=none,data := .seq ([] : List Value).toArray }:=by rw [← hH2];exact Heap.get?_push_size _ rfl
 have keepG:∀ b o,s2.heap.get? b=some o→G2.get? b=some o:=fun b o e=>by rw [← hH2];exact Heap.get?_push_of_some _ e
 have I3:Inv X pins σ (upd H1 s2.heap.objs.size (.lst [])) { s2 with heap:=G2,toks:=s2.toks } :=
  I2.laid (t':=s2.toks) keepG (Nat.le_refl _) (show zbS X.prog X.w _ G2 _ (.lst []) from ⟨by simp,[],0, .nil,hG2D⟩)
 have keep1:∀ b o,G2.get? b=some o→h₁.get? b=some o:=fun b o e=>(hsb₁.2 b (Nat.ne_of_lt (Heap.lt_size e))).trans (Heap.get?_push_of_some _ e)
 have I4:Inv X pins σ (upd H1 s2.heap.objs.size (.lst [])) { s2 with heap:=h₁,toks:=s2.toks + 0 }:=I3.kept (h':=h₁) (t':=s2.toks + 0) keep1
 generalize hT:(H1,(⟨tg,iter,ifs,0⟩ : Comprehension))=junk
 clear hT junk
 have fpsz:∀ b ∈ fp,b < s2.heap.objs.size:=fun b hb=>by
  obtain ⟨o,e,_⟩:=T.obj 0 _ st2 b hb
  exact Heap.lt_size e
 have fpD:s2.heap.objs.size ∉ fp:=fun z=>Nat.lt_irrefl _ (fpsz _ z)
 have fpC:∀ b ∈ fp,b ≠ G2.objs.size:=fun b hb=>Nat.ne_of_lt (by rw [hCz];exact Nat.lt_succ_of_lt (fpsz b hb))
 have okC:(lcCx X scope ls js cl G2.objs.size { s2 with heap:=G2 } (upd H1 s2.heap.objs.size (.lst [])) fp).Ok:=by
  refine zkh L I3 hk1 hk2 (Nat.le_refl _) I3.bs (Nat.le_trans I3.ok.bsz I3.sz) I3.stack I3.zfB (fun b hb=>⟨fpC b hb,(f2 b hb).2.2.2.2.1⟩) (fun b o e hb=>?_) (fun b hb z=>?_)
  ·rcases (f2 b hb).2.2.2.1 with q | q
   ·exact I2.ok.noex b o e q
   ·exact absurd (Nat.lt_of_lt_of_le (Heap.lt_size (I2.ok.bs b o e).1) q) (Nat.lt_irrefl _)
  ·rcases List.mem_cons.mp (I3.zeE b z) with q | q
   ·exact (f2 b hb).2.1 q
   ·exact (f2 b hb).2.2.1 q
 have IC:Inv (lcCx X scope ls js cl G2.objs.size { s2 with heap:=G2 } (upd H1 s2.heap.objs.size (.lst [])) fp) [] (lcSt ls js σ) (upd H1 s2.heap.objs.size (.lst [])) { s2 with heap:=h₁,toks:=s2.toks + 0 }:=by
  refine ⟨okC,rfl,I4.bare,Un.kept keep1,⟨_,hns₁,fun i x v e1 e2 e3=>?_⟩,fun x c e=>I4.cell x c (hk1 x c e),?_,fun x c e=>I4.freeC x c (hk1 x c e),fun p hp=>?_,I4.hok,?_⟩
  ·obtain ⟨k,j,hi',hj,hσ⟩:=ziO e2
   obtain ⟨y,hy,hyf⟩:=L.cap j (List.mem_of_getElem? hj)
   have hxy:x=y:=by
    have e1':(ls ++ js.map (fun j=>X.N.getD j Str.empty))[i]? = some x:=e1
    rw [hi',List.getElem?_append_right (Nat.le_add_right ..),Nat.add_sub_cancel_left,List.getElem?_map,hj] at e1'
    have e1'':X.N.getD j Str.empty=x:=Option.some.inj e1'
    rw [← e1'',List.getD_eq_getElem?_getD,hy]
    rfl
   subst hxy
   have hkf:X.env.kindOf x=some .cell∨X.env.kindOf x=some .free:=by
    have hm:(x,NameKind.free) ∈ scope.names:=by
     have q:=zcp (env:=X.env) L.cell (zaZ (env:=X.env) hyf)
     exact q
    exact L.free _ hm rfl
   obtain ⟨m,hn,hl⟩:=I4.loc
   obtain ⟨u,r,l⟩:=hl j x v hy hσ (hkf.elim (fun z => .inr (.inl z)) fun z => .inr (.inr z))
   refine ⟨u,r, .inr ⟨zaZ (env:=X.env) hyf,?_⟩⟩
   rcases l with ⟨kl,_⟩ | ⟨_,c,hc',z⟩
   ·rcases hkf with q | q
    ·rw [q] at kl;cases kl
    ·rw [q] at kl;cases kl
   ·have hm:(x,NameKind.free) ∈ scope.names:=zcp (env:=X.env) L.cell (zaZ (env:=X.env) hyf)
    obtain ⟨c',hc''⟩:=hk2 _ hm rfl
    have:=hk1 _ _ hc''
    rw [hc'] at this
    cases this
    exact ⟨c,hc'',z⟩
  ·show upd H1 s2.heap.objs.size (.lst []) G2.objs.size=none
   rw [zai (Ne.symm hDC)]
   exact hC0
  ·have hp':p ∈ X.pn:=by simpa [lcCx] using hp
   obtain ⟨e,n,ne,nf,d⟩:=I4.pin p (List.mem_append_left _ hp')
   obtain ⟨e3,_⟩:=I3.pin p (List.mem_append_left _ hp')
   refine ⟨e,n,?_,fun z=>?_,d⟩
   ·exact Nat.ne_of_lt (Heap.lt_size e3)
   ·rcases List.mem_cons.mp (I3.zeE p.1 z) with q | q
    ·exact ne q
    ·exact nf q
  ·simp [lcSt,lcCx]
 obtain ⟨hbG,hbI,hbE⟩:=hb cl G2.objs.size { s2 with heap:=G2 } (upd H1 s2.heap.objs.size (.lst [])) fp
 obtain ⟨W,⟨m0,w0⟩,turn⟩:=h2 s2.heap.objs.size hD0
 have st0:tn 0 h₁:=T.keep _ _ _ st2 fun b hb o e=>keep1 b o (keepG b o e)
 have frz:∀ {H':Hp},(∀ b ∈ fp,H' b=none)→∀ b ∈ fp,FpOk (lcCx X scope ls js cl G2.objs.size { s2 with heap:=G2 } (upd H1 s2.heap.objs.size (.lst [])) fp) [] H' b:=fun hn b hb=>by
  refine ⟨hn b hb,fpC b hb,fun z=>?_, .inl hb,fun x c e=>(f2 b hb).2.2.2.2.1 x c (hk1 x c e),fun p hp=>?_⟩
  ·rcases List.mem_cons.mp (I3.zeE b z) with q | q
   ·exact (f2 b hb).2.1 q
   ·exact (f2 b hb).2.2.1 q
  ·have hp':p ∈ X.pn:=by simpa [lcCx] using hp
   exact (f2 b hb).2.2.2.2.2 p (List.mem_append_left _ hp')
 have fr0:∀ b ∈ fp,(upd H1 s2.heap.objs.size (.lst [])) b=none:=fun b hb=>by
  rw [zai (show b ≠ s2.heap.objs.size from Nat.ne_of_lt (fpsz b hb))]
  exact (f2 b hb).1
 have loop:∀ s4:Shared,s4 = { s2 with heap:=h₁,toks:=s2.toks + 0 } →
   codeAny (model X.prog X.w) X.A (.compLoop (.ListComp elt [⟨tg,iter,ifs,0⟩] scope pos) 0 (.ref it) (.ref s2.heap.objs.size) (compEnvC scope cl G2.objs.size X.env))
    (compPost (model X.prog X.w) X.A X.xe none (EP X pins σ Q) (.ref s2.heap.objs.size) G2.objs.size) s4:=by
  rintro s4 rfl
  refine ze8 (fun n s'=>∃ i σ' H',Inv (lcCx X scope ls js cl G2.objs.size { s2 with heap:=G2 } (upd H1 s2.heap.objs.size (.lst [])) fp) [] σ' H' s'∧tn i s'.heap∧(∀ b ∈ fp,H' b=none)∧W i n σ' H') ?_ m0 ⟨0,_,_,IC,st0,fr0,w0⟩
  rintro n s5 ⟨i,σ5,H5,I5,st5,fr5,w5⟩
  rcases turn i n σ5 H5 w5 with ⟨stop,qn⟩ | ⟨go,N,hN,step⟩
  ·refine thn (T.done (lcCx X scope ls js cl G2.objs.size { s2 with heap:=G2 } (upd H1 s2.heap.objs.size (.lst [])) fp) rfl rfl rfl hc i [] s5 σ5 H5 _ I5 (frz fr5) st5 stop) fun r s6 ⟨hr,I6⟩=>?_
   subst hr
   obtain ⟨m6,hn6,_⟩:=I6.loc
   refine ⟨m6,hn6,fun h' hsb=>⟨.ref s2.heap.objs.size,H5,?_,rfl,qn⟩⟩
   have un1:Un (frs X.stack) fp (upd H1 s2.heap.objs.size (.lst [])) H5 G2 s6.heap:=I6.base
   have un0:Un (frs X.stack) fp H1 (upd H1 s2.heap.objs.size (.lst [])) s2.heap G2:=Un.laid keepG (Nat.le_refl _) hD0
   have un:=un0.trans un1
   have neC:∀ b o,s2.heap.get? b=some o→b ≠ G2.objs.size:=fun b o e=>Nat.ne_of_lt (by rw [hCz];exact Nat.lt_succ_of_lt (Heap.lt_size e))
   have un':Un (frs X.stack) fp H1 H5 s2.heap h':=⟨fun b o e n a x=>(hsb.2 b (neC b o e)).trans (un.keep b o e n a x),fun b o e n a x=>by
    obtain ⟨sl,q⟩:=un.slot b o e n a x
    exact ⟨sl,(hsb.2 b (neC b o e)).trans q⟩,un.free,fun b o e x=>by
    obtain ⟨o',q⟩:=un.there b o e x
    exact ⟨o',(hsb.2 b (neC b o e)).trans q⟩,un.tups,un.frzs,un.tbls⟩
   have hok':HOk X.prog X.w H5 h':=fun b o e=>by
    refine (I6.hok b o e).stay (fun c u hc' q=>(hsb.2 c ?_).trans q) (fun _ q=>q) fun _ _ q=>q
    have hfree:H5 G2.objs.size=none:=I6.free
    rintro rfl
    rcases hc' with z | z
    ·subst z;rw [hfree] at e;cases e
    ·rw [hfree] at z;cases z
   refine I2.zj3 (s':={ s6 with heap:=h' }) (ch:=fp) ?_ un' hok' I6.bare fun b hb=>⟨(f2 b hb).2.2.2.1,(f2 b hb).2.1,(f2 b hb).2.2.2.2.1,(f2 b hb).2.2.2.2.2⟩
   exact I6.os
  ·refine thn (T.item (lcCx X scope ls js cl G2.objs.size { s2 with heap:=G2 } (upd H1 s2.heap.objs.size (.lst [])) fp) rfl rfl rfl hc i [] s5 σ5 H5 _ I5 (frz fr5) st5 go) fun r s6 ⟨u,hr,h6⟩=>?_
   subst hr
   refine thn h6 fun _ s7 ⟨x,H7,I7,r7,y7,st7,fr7⟩=>?_
   have I7':=I7.pinned (frz fr7) (T.obj _ _ st7)
   refine thn (hbG _ s7 σ5 H7 x u _ I7' r7 (step x H7 y7)) fun _ s8 ⟨σ8,H8,I8,q8⟩=>?_
   refine thn (hbI _ s8 σ8 H8 _ I8 q8) fun ok s9 ⟨H9,I9,q9⟩=>?_
   have again:∀ {σa:St} {Ha:Hp} {sa:Shared},Inv (lcCx X scope ls js cl G2.objs.size { s2 with heap:=G2 } (upd H1 s2.heap.objs.size (.lst [])) fp) ([] ++ zeU fp s7.heap) σa Ha sa→N σa Ha →
     ∃ m,m < n∧∃ i σ' H',Inv (lcCx X scope ls js cl G2.objs.size { s2 with heap:=G2 } (upd H1 s2.heap.objs.size (.lst [])) fp) [] σ' H' sa∧tn i sa.heap∧(∀ b ∈ fp,H' b=none)∧W i m σ' H':=fun {σa Ha sa} Ia na=>by
    obtain ⟨m',hm,wa⟩:=hN σa Ha na
    refine ⟨m',hm,i + 1,σa,Ha,Ia.zdk,T.keep _ _ _ st7 fun b hb o e=>(Ia.pin (b,o) (List.mem_append_right _ (List.mem_append_right _ (zcv hb e)))).1,fun b hb=>?_,wa⟩
    obtain ⟨o,e,d⟩:=T.obj _ _ st7 b hb
    exact (Ia.pin (b,o) (List.mem_append_right _ (List.mem_append_right _ (zcv hb e)))).2.1
   cases ok with
   | false=>exact again I9 q9
   | true =>
    refine thn (hbE _ s9 σ8 H9 _ I9 q9) fun y s10 ⟨z,H10,I10,r10,ys,hD,hlt,nn⟩=>?_
    obtain ⟨zz,its,k,r,hl,e⟩:=I10.lstM hD
    refine call_meets F.slot_list_append ⟨_,e,rfl⟩ F.entry_list_append (F.args_list_append_2 _ _) (PySem.list_append s2.heap.objs.size its.toArray k y (by rw [List.size_toArray];omega)) ⟨e,?_⟩
    refine again (I10.lset (its':=its ++ [y]) (t':=s10.toks) hD e ?_ (r.append (.cons r10 .nil)) ?_) nn
    ·simp
    ·simp;omega
 exact codeAny_compStart_list (loop _ rfl) (T.self _ 0 _ _ _ st0 (loop _ rfl))
end
end L2
namespace L2
open PySem PySem.Spec PyProof.Rows
section
variable {X:Cx}
theorem ziE (hc:X.calm=true):zcI X (.builtin "sum") (fun xs H Q=>∃ (a:Addr) (ns:List Int),xs=[.ref a]∧SqL X.K H a (ns.map V.int)∧Q (.int ns.sum) H):=by
 intro pins s σ H xs us Q I r h
 obtain ⟨a,ns,rfl,hq,q⟩:=h
 obtain ⟨u,rfl,ru⟩:=vals1 r
 cases ru
 obtain ⟨its,rv,pl,hz⟩:=I.list hq
 have hi:IntsAre its ns:=intsAre_of rv
 obtain ⟨xs,hxs⟩:=hi.allInts.items
 have hl:s.heap.IsList a (intItems xs):=hxs ▸ pl.isList
 refine sum_intListG (I.ok.hd hc) hl fun h' tk t' hk=>?_
 have e:preSum (numAt xs) xs.size=ns.sum:=by
  rw [preSum_eq,List.take_of_length_le (by simp),← nums_intItems,← hxs,show its.toArray.toList=its from rfl,hi.numsOf]
 exact ⟨.int ns.sum,H,I.kept (t':=tk) hk,⟨t',by rw [e]⟩,q⟩
theorem zfi:zcI X (.builtin "isinstance") (fun xs H Q=>∃ x n t b,xs=[x, .ty n]∧TyOf X.K H x t∧PySem.W.kitOne X.K t (.type n)=some b∧Q (.bl b) H):=by
 intro pins s σ H xs us Q I r h
 obtain ⟨x,n,t,b,rfl,ty,e,q⟩:=h
 obtain ⟨u,v,rfl,rx,ry⟩:=vals2 r
 cases ry
 exact zhv I rx ty e fun tk=>⟨.bl b,H,I.tok tk,rfl,q⟩
end
inductive Dt where
 | int (i:Int) | bl (b:Bool) | str (x:Str) | non | tup (ds:List Dt) | lst (ds:List Dt)
def Den (K:PySem.W.Frag) (H:Hp):Nat→V→Dt→Prop
 | _,v, .int j=>v = .int j
 | _,v, .bl b=>v = .bl b
 | _,v, .str x=>v = .str x
 | _,v, .non=>v = .non
 | 0,_, .tup _=>False
 | 0,_, .lst _=>False
 | n + 1,v, .tup ds=>∃ a xs,v = .ref a∧SqT K H a xs∧Paired (Den K H n) xs ds
 | n + 1,v, .lst ds=>∃ a xs,v = .ref a∧SqL K H a xs∧Paired (Den K H n) xs ds
theorem Same.seqT {K:PySem.W.Frag} {H H':Hp} {a:Addr} {xs:List V} (e:Same H H') (h:SqT K H a xs):SqT K H' a xs:=by
 rcases h with (h | ⟨o,h⟩) | h
 ·exact .inl (.inl (e _ _ h))
 ·exact .inl (.inr ⟨o,e _ _ h⟩)
 ·exact .inr h
theorem Den.same {K:PySem.W.Frag} {H H':Hp} (e:Same H H'):∀ {n:Nat} {v:V} {d:Dt},Den K H n v d→Den K H' n v d:=by
 intro n
 induction n with
 | zero=>intro v d h;cases d <;> first | exact h | exact h.elim
 | succ n ih =>
  intro v d h
  cases d with
  | tup ds =>
   obtain ⟨a,xs,h1,h2,h3⟩:=h
   exact ⟨a,xs,h1,e.seqT h2,Paired.mapP h3 fun _ _ q=>ih q⟩
  | lst ds =>
   obtain ⟨a,xs,h1,h2,h3⟩:=h
   exact ⟨a,xs,h1,e.seq h2,Paired.mapP h3 fun _ _ q=>ih q⟩
  | int i=>exact h
  | bl b=>exact h
  | str x=>exact h
  | non=>exact h
theorem Paired.get {α β:Type} {F:α→β→Prop}:∀ {l₁:List α} {l₂:List β} {i:Nat} {a:α},Paired F l₁ l₂→l₁[i]? = some a→∃ b,l₂[i]? = some b∧F a b
 | _,_,_,_, .nil,e=>by simp at e
 | _,_,0,_, .cons r _,e=>by simp at e;subst e;exact ⟨_,rfl,r⟩
 | _,_,i + 1,x, .cons _ t,e=>by
  obtain ⟨u,h1,h2⟩:=Paired.get (i:=i) (a:=x) t (by simpa using e)
  exact ⟨u,by simpa using h1,h2⟩
section
variable {X:Cx} {pins:List (Addr × Obj)} {σ:St} {H:Hp} {s:Shared}
end
section
variable {X:Cx}
end
end L2
namespace L2
open PySem PySem.Spec PyProof.Rows
structure HasFn (K:PySem.W.Frag) (mg:Str→Option Value) (x:Str) (st:Stmt):Prop where
 ex:∃ f fd,mg x=some (.ref f)∧Fun K x x st f fd
theorem zbN {K:PySem.W.Frag} {h:Heap} {mg:Str→Option Value} {x:Str} {st:Stmt} {f:Addr} {oc:Value} {od an:Option Addr} {osl:Array (Option Value)} {kV doc pm cdv ct:Value} (X:K.In h) (G:h.Ns mainGlobals mg)
  (a:PySem.W.nsIn K mainGlobals x=some (some (.ref f))) (l:K.lookup f=some ⟨oc,od, .func (PySem.W.fnOf x x (zax st) (zal st) (zab st) .none kV doc pm an cdv ct),osl⟩)
  (c:PySem.W.codeIn K cdv x=true) (k:PySem.W.keepIn K (.ref f)=true):HasFn K mg x st:=⟨⟨f,_,PySem.W.mg_of X G a,zd8 l c k⟩⟩
structure Def (P:Program) (w:World) (K:PySem.W.Frag) (mg:Str→Option Value) (base:Heap) (x:Str) (k:Nat) (ps:List Str) (sp:Sp):Prop where
 ex:∃ f fd,FnOk P w K mg base CX0 k f fd ps sp∧mg x=some (.ref f)∧PySem.W.keepIn K (.ref f)=true∧Binds K fd ps []
theorem Def.of {P:Program} {w:World} {K:PySem.W.Frag} {mg:Str→Option Value} {base:Heap} {x:Str} {st:Stmt} {N ps:List Str} {k:Nat} {sp:Sp} (h:HasFn K mg x st) (S:zaw N ps (zab st))
  (bind:∀ (kV doc pm:Value) (an:Option Addr) (cdv ct:Value) (us:List Value),us.length=ps.length→bindArgs (PySem.W.fnOf x x (zax st) (zal st) (zab st) .none kV doc pm an cdv ct) ⟨us,[]⟩ = pure (ps.zip us))
  (len:∀ vs H Q E,sp vs H Q E→vs.length=ps.length)
  (hbody:∀ (f:Addr) (cdv:Value) (A:Around) (outer:List Env) (s:Shared) (H:Hp) (vs:List V) (Q:VK) (E:XK),Room k (A.deeper (envOfC x (zab st) s.heap.objs.size f cdv))→sp vs H Q E →
   ∃ t,PSs (cxOf CX0 P w K mg base N x (zab st) f cdv A outer s H E).nox (zal st) t∧t { nx:=fun _ H'=>Q .non H',rt:=Q } (start N vs) H):Def P w K mg base x (k + 1) ps sp:=by
 obtain ⟨f,fd,hm,F⟩:=h.ex
 exact ⟨f,fd,F.ok S len (hbody f),hm,F.kp,F.binds bind⟩
theorem Same.new {H:Hp} {p:Addr} {o:HO} (h:H p=none):Same H (upd H p o):=fun b u e=>by rw [zai (zau e h)];exact e
def Kept (l:Addr) (H H':Hp):Prop:=∀ b o,b ≠ l→H b=some o→H' b=some o
theorem Kept.upd (l:Addr) (H:Hp) (o:HO):Kept l H (upd H l o):=fun b u hb e=>by rw [zai hb];exact e
theorem Same.kept {l:Addr} {H H':Hp} (h:Same H H'):Kept l H H':=fun b o _ e=>h b o e
theorem Kept.trans {l:Addr} {H H1 H2:Hp} (a:Kept l H H1) (b:Kept l H1 H2):Kept l H H2:=fun c o hc e=>b c o hc (a c o hc e)
theorem Kept.seqT {K:PySem.W.Frag} {l:Addr} {H H':Hp} {a:Addr} {xs ys:List V} (e:Kept l H H') (hl:H l=some (.lst ys)) (h:SqT K H a xs):SqT K H' a xs:=by
 rcases h with (h | ⟨o,h⟩) | h
 ·exact .inl (.inl (e _ _ (zlD h hl (by intro z;cases z)) h))
 ·exact .inl (.inr ⟨o,e _ _ (zlD h hl (by intro z;cases z)) h⟩)
 ·exact .inr h
def IsTI (K:PySem.W.Frag) (H:Hp) (v:V) (ns:List Int):Prop:=∃ p,v = .ref p∧SqT K H p (ns.map V.int)
theorem IsTI.same {K:PySem.W.Frag} {H H':Hp} {v:V} {ns:List Int} (e:Same H H') (h:IsTI K H v ns):IsTI K H' v ns:=let ⟨p,a,b⟩:=h; ⟨p,a,e.seqT b⟩
theorem IsTI.kept {K:PySem.W.Frag} {l:Addr} {H H':Hp} {v:V} {ns:List Int} {ys:List V} (e:Kept l H H') (hl:H l=some (.lst ys)) (h:IsTI K H v ns):IsTI K H' v ns:=let ⟨p,a,b⟩:=h; ⟨p,a,e.seqT hl b⟩
def Rows (K:PySem.W.Frag) (H:Hp) (xs:List V) (rs:List (List Int)):Prop:=Paired (IsTI K H) xs rs
theorem Rows.same {K:PySem.W.Frag} {H H':Hp} {xs:List V} {rs:List (List Int)} (e:Same H H') (h:Rows K H xs rs):Rows K H' xs rs:=Paired.mapP h fun _ _ q=>q.same e
theorem Rows.kept {K:PySem.W.Frag} {l:Addr} {H H':Hp} {xs ys:List V} {rs:List (List Int)} (e:Kept l H H') (hl:H l=some (.lst ys)) (h:Rows K H xs rs):Rows K H' xs rs:=Paired.mapP h fun _ _ q=>q.kept e hl
theorem Rows.snoc {K:PySem.W.Frag} {H:Hp} {xs:List V} {rs:List (List Int)} {v:V} {r:List Int} (h:Rows K H xs rs) (q:IsTI K H v r):Rows K H (xs ++ [v]) (rs ++ [r]):=Paired.snoc h q
end L2
namespace L2
open PySem PySem.Spec PyProof.Rows
def TbAt (h₀ h:Heap) (H:Hp) (x:Addr) (vs:Array Value):Prop :=
 ∃ T oT ts,vs[1]? = some (.ref T)∧T ≠ x∧h₀.get? T=none∧H T=none∧h.get? T=some oT∧oT.data = .fields ts∧3 < ts.size
def ExAt (h₀ h:Heap) (H:Hp) (x:Addr) (cls:Value) (dx:Option Addr) (tb:Bool):Prop :=
 h₀.get? x=none∧H x=none∧∃ oe vs,h.get? x=some oe∧oe.cls=cls∧oe.dict=dx∧oe.data = .fields vs∧1 < vs.size∧((tb=false∧vs[1]? = some .none)∨TbAt h₀ h H x vs)
theorem ExAt.any {h₀ h:Heap} {H:Hp} {x:Addr} {cls:Value} {dx:Option Addr} {tb:Bool} (e:ExAt h₀ h H x cls dx tb):ExAt h₀ h H x cls dx false:=by
 obtain ⟨a,b,oe,vs,c1,c2,c3,c4,c5,c6⟩:=e
 exact ⟨a,b,oe,vs,c1,c2,c3,c4,c5,c6.imp (fun z=>⟨rfl,z.2⟩) id⟩
structure Top1 (X:Cx):Prop where
 stk:X.stack=X.env :: X.outer
 frm:X.env.frame=some X.env.locals
 pn:X.pn=[]
theorem Top1.mem {X:Cx} (t:Top1 X) {b:Addr}:b ∈ frs X.stack↔b=X.env.locals∨b ∈ X.fs:=by
 rw [t.stk]
 unfold frs
 rw [List.filterMap_cons,t.frm]
 exact List.mem_cons
section
variable {X:Cx} {σ:St} {H:Hp} {s:Shared}
theorem Inv.recs {h':Heap} {ch:List Addr} (I:Inv X [] σ H s) (t:Top1 X) (hch:∀ b ∈ ch,X.s₀.heap.get? b=none∧H b=none∧∃ o vs,s.heap.get? b=some o∧o.data = .fields vs)
  (keep:∀ b o,b ∉ frs X.stack→b ∉ ch→s.heap.get? b=some o→h'.get? b=some o) (slot:∀ b o,b ∈ frs X.stack→s.heap.get? b=some o→∃ sl,h'.get? b=some { o with slots:=sl }) :
  Inv X [] σ H { s with heap:=h' }:=by
 have ncell:∀ c v,s.heap.IsCell c v→c ∉ ch:=fun c v ⟨o,ho,hd⟩ hc=>by
  obtain ⟨_,_,o',vs,e,d⟩:=hch c hc
  rw [ho] at e;cases e
  rw [hd] at d;cases d
 have any:∀ b o,b ∉ ch→s.heap.get? b=some o→∃ sl,h'.get? b=some { o with slots:=sl }:=fun b o hc e=>by
  by_cases hb:b ∈ frs X.stack
  ·exact slot b o hb e
  ·exact ⟨o.slots,keep b o hb hc e⟩
 have cellK:∀ c v,s.heap.IsCell c v→h'.IsCell c v:=fun c v z=>by
  obtain ⟨o,ho,hd⟩:=id z
  obtain ⟨sl,e⟩:=any c o (ncell c v z) ho
  exact ⟨_,e,hd⟩
 have old:∀ b o,X.s₀.heap.get? b=some o→b ≠ X.env.locals∧b ∉ ch:=fun b o e =>
  ⟨Nat.ne_of_lt (Nat.lt_of_lt_of_le (Heap.lt_size e) I.ok.above),fun hc=>by rw [(hch b hc).1] at e;cases e⟩
 have nfr:∀ b,b ≠ X.env.locals→b ∉ X.fs→b ∉ frs X.stack:=fun b h1 h2 z=>(t.mem.mp z).elim h1 h2
 refine ⟨I.ok,I.os,I.bare,⟨fun b o e n hb hx=>?_,fun b o e n hb hx=>?_,I.base.free,fun b o e hx=>?_,I.base.tups,I.base.frzs,I.base.tbls⟩,?_,fun x c e=>?_,I.free,I.freeC,fun p hp=>?_,fun b u e=>?_,I.len⟩
 ·exact keep b o (nfr b (old b o e).1 hb) (old b o e).2 (I.base.keep b o e n hb hx)
 ·obtain ⟨sl,e1⟩:=I.base.slot b o e n hb hx
  obtain ⟨sl',e2⟩:=any b _ (old b o e).2 e1
  exact ⟨sl',e2⟩
 ·obtain ⟨o',e1⟩:=I.base.there b o e hx
  obtain ⟨sl,e2⟩:=any b o' (old b o e).2 e1
  exact ⟨_,e2⟩
 ·obtain ⟨m,hn,hl⟩:=I.loc
  obtain ⟨o,es,ep,ho,hd,r⟩:=id hn
  have hLc:X.env.locals ∉ ch:=fun hc=>by
   obtain ⟨_,_,o',vs,e,d⟩:=hch _ hc
   rw [ho] at e;cases e
   rw [hd] at d;cases d
  obtain ⟨sl,e⟩:=any _ o hLc ho
  refine ⟨m,⟨_,es,ep,e,hd,r⟩,fun i x v e1 e2 e3=>?_⟩
  obtain ⟨u,ru,l⟩:=hl i x v e1 e2 e3
  refine ⟨u,ru,?_⟩
  rcases l with l | ⟨k,c,ec,z⟩
  ·exact .inl l
  ·exact .inr ⟨k,c,ec,cellK c _ z⟩
 ·obtain ⟨v,z⟩:=I.cell x c e
  exact ⟨v,cellK c v z⟩
 ·rw [t.pn] at hp
  simp at hp
 ·refine (I.hok b u e).stay (fun c v hc q=>keep c v ?_ ?_ q) (fun _ q=>q) fun _ _ q=>q
  ·intro z
   have f:=I.zfB c z
   rcases hc with y | y
   ·rw [y,e] at f;cases f
   ·rw [y] at f;cases f
  ·intro z
   have f:=(hch c z).2.1
   rcases hc with y | y
   ·rw [y,e] at f;cases f
   ·rw [y] at f;cases f
variable {M:Model} {E:Value→Shared→Prop} {x:Addr} {cls:Value} {dx:Option Addr}
theorem ExAt.ziL (I:Inv X [] σ H s) {b:Addr} {o:Obj} {vs:Array Value} (e:s.heap.get? b=some o) (d:o.data = .fields vs):b ∉ frs X.stack:=fun hm=>by
 obtain ⟨_,o',ho,hnf⟩:=I.stack.mem hm
 rw [e] at ho;cases ho
 exact hnf vs d
theorem zga (I:Inv X [] σ H s) (t:Top1 X) {oe:Obj} {vs:Array Value} {head:Value} {had:Bool} {Q:Unit→Shared→Prop} (hx0:X.s₀.heap.get? x=none) (hxH:H x=none) (he:s.heap.get? x=some oe) (hd:oe.data = .fields vs) (hsz:1 < vs.size)
  (q:∀ h',Inv X [] σ H { s with heap:=h' }→ExAt X.s₀.heap h' H x oe.cls oe.dict true→Q () { s with heap:=h' }) :
  wpAny M X.A (do let a ← frameOf X.env;let pl ← entryPlaceOf X.env.locals had;let b ← EntryCells.newEntry head a .none (rawInt X.env.locals) .none pl;setField (.ref x) 1 b) Q E s:=by
 have hfr:X.A.frames=some (X.env :: X.outer):=by rw [← t.stk];exact I.ok.frames
 have hl:s.heap.FunFrames X.base (X.env :: X.outer):=by rw [← t.stk];exact I.stack
 have hne:x ∉ frs X.stack:=ExAt.ziL I he hd
 have efr:(X.env :: X.outer).filterMap (·.frame)=frs X.stack:=by rw [t.stk];rfl
 refine wpAny_bind (wpAny_frameOf_fun hfr hl t.frm fun h1 s1=>wpAny_bind (wpAny_entryPlaceOf fun pl hpl=>?_))
 rw [efr] at s1
 unfold EntryCells.newEntry
 unfold newFields
 refine wpAny_bind (wpAny_newObj_type ?_ (hpl.sizeOk5 _ _ _ _ _))
 have he1:h1.get? x=some oe:=(s1.2.1 x hne).trans he
 generalize hto:({ cls := .type "traceback",dict:=none,data := .fields ([head, .ref X.env.locals, .none,rawInt X.env.locals, .none] ++ (if pl.isEmpty then List.replicate 6 Value.none else pl)).toArray }:Obj)=to
 have hte:∃ ts,to.data = .fields ts∧3 < ts.size:=⟨_,by rw [← hto],by simp only [List.size_toArray,List.length_append,List.length_cons,List.length_nil];omega⟩
 have htf:to.isFreed=false:=by rw [← hto];rfl
 have he2:(h1.push to).get? x=some oe:=Heap.get?_push_of_some _ he1
 have hTx:h1.objs.size ≠ x:=Nat.ne_of_gt (Heap.lt_size he1)
 refine wpAny_setField he2 hd hsz ?_
 have hd3:=Obj.data_mapFields hd (·.setIfInBounds 1 (Value.ref h1.objs.size))
 have he3:=Heap.get?_update_self (Obj.mapFields (·.setIfInBounds 1 (Value.ref h1.objs.size))) he2 (Obj.isFreed_of_fields hd3)
 have hT3:=(Heap.get?_update_other (h1.push to) (Obj.mapFields (·.setIfInBounds 1 (Value.ref h1.objs.size))) (Ne.symm hTx)).trans (Heap.get?_push_size h1 htf)
 have kp:∀ b o,b ≠ x→h1.get? b=some o→((h1.push to).update x (Obj.mapFields (·.setIfInBounds 1 (Value.ref h1.objs.size)))).get? b=some o:=fun b o hb e =>
  (Heap.get?_update_other _ _ (Ne.symm hb)).trans (Heap.get?_push_of_some _ e)
 have hT0:X.s₀.heap.get? h1.objs.size=none:=by
  cases e:X.s₀.heap.get? h1.objs.size with
  | none=>rfl
  | some o =>
   have h2:=Nat.lt_of_lt_of_le (Heap.lt_size e) I.sz
   rw [s1.1] at h2
   exact absurd h2 (Nat.lt_irrefl _)
 have hTH:H h1.objs.size=none:=by rw [s1.1];exact I.hok.fresh (Nat.le_refl _)
 refine q _ (I.recs t (ch:=[x]) (fun b hb=>?_) (fun b o hb hc e=>?_) fun b o hb e=>?_) ⟨hx0,hxH,_,_,he3,Obj.cls_mapFields _ _,?_,hd3,by simpa using hsz, .inr ⟨h1.objs.size,to,?_⟩⟩
 ·rw [List.mem_singleton.mp hb]
  exact ⟨hx0,hxH,oe,vs,he,hd⟩
 ·exact kp b o (fun z=>hc (by rw [z];exact List.mem_singleton.mpr rfl)) ((s1.2.1 b hb).trans e)
 ·obtain ⟨sl,e1⟩:=s1.2.2 b o e
  exact ⟨sl,kp b _ (fun z=>hne (z ▸ hb)) e1⟩
 ·obtain ⟨c,d,dt,sl⟩:=oe
  cases dt <;> rfl
 ·obtain ⟨ts,d1,d2⟩:=hte
  exact ⟨ts,by simp [hsz],hTx,hT0,hTH,hT3,d1,d2⟩
theorem zhf (I:Inv X [] σ H s) (t:Top1 X) {tb:Bool} {Q:Unit→Shared→Prop} (e:ExAt X.s₀.heap s.heap H x cls dx tb)
  (q:∀ h',Inv X [] σ H { s with heap:=h' }→ExAt X.s₀.heap h' H x cls dx true→Q () { s with heap:=h' }):wpAny M X.A (noteFrame (.ref x) X.env) Q E s:=by
 obtain ⟨hx0,hxH,oe,vs,he,rfl,rfl,hd,hsz,tb'⟩:=id e
 unfold noteFrame
 simp only [t.frm]
 rcases tb' with ⟨_,h1⟩ | ⟨T,oT,ts,h1,hTx,hT0,hTH,hT,hdT,h3⟩
 ·refine wpAny_bind (wpAny_field he hd h1 ?_)
  rw [if_neg (by decide)]
  exact zga I t hx0 hxH he hd hsz q
 ·refine wpAny_bind (wpAny_field he hd h1 ?_)
  rw [if_pos (show (Value.ref T != Value.none)=true from by simp)]
  obtain ⟨v3,hv3⟩ : ∃ v3,ts[3]? = some v3:=⟨ts[3],Array.getElem?_eq_getElem h3⟩
  refine wpAny_bind (wpAny_field hT hdT hv3 ?_)
  by_cases hb:(v3 == rawInt X.env.locals)=true
  ·rw [if_pos hb]
   exact wpAny_pure (q s.heap I ⟨hx0,hxH,oe,vs,he,rfl,rfl,hd,hsz, .inr ⟨T,oT,ts,h1,hTx,hT0,hTH,hT,hdT,h3⟩⟩)
  ·rw [if_neg hb]
   refine wpAny_bind (wpAny_setField hT hdT h3 ?_)
   have oth:∀ b,b ≠ T→(s.heap.update T (Obj.mapFields (·.setIfInBounds 3 Value.none))).get? b=s.heap.get? b:=fun b hb=>Heap.get?_update_other _ _ (Ne.symm hb)
   have hTfr:T ∉ frs X.stack:=ExAt.ziL I hT hdT
   have I1:Inv X [] σ H { s with heap:=s.heap.update T (Obj.mapFields (·.setIfInBounds 3 Value.none)) }:=I.recs t (ch:=[T]) (fun b hb=>by
    rw [List.mem_singleton.mp hb]
    exact ⟨hT0,hTH,oT,ts,hT,hdT⟩) (fun b o _ hc e=>(oth b (fun z=>hc (by rw [z];exact List.mem_singleton.mpr rfl))).trans e) fun b o hb e=>⟨o.slots,(oth b (fun z=>hTfr (z ▸ hb))).trans e⟩
   exact zga I1 t hx0 hxH ((oth x (Ne.symm hTx)).trans he) hd hsz q
theorem ze2 {A:Around} (I:Inv X [] σ H s) (t:Top1 X) {fo:Option Addr} {Q:Unit→Shared→Prop} (e:ExAt X.s₀.heap s.heap H x cls dx true)
  (q:∀ h',Inv X [] σ H { s with heap:=h' }→ExAt X.s₀.heap h' H x cls dx true→Q () { s with heap:=h' }):wpAny M A (setFlight (.ref x) fo) Q E s:=by
 obtain ⟨hx0,hxH,oe,vs,he,rfl,rfl,hd,hsz,tb'⟩:=id e
 rcases tb' with ⟨z,_⟩ | ⟨T,oT,ts,h1,hTx,hT0,hTH,hT,hdT,h3⟩
 ·cases z
 unfold setFlight
 refine wpAny_bind (wpAny_field he hd h1 ?_)
 rw [if_pos (show (Value.ref T != Value.none)=true from by simp)]
 refine wpAny_setField hT hdT h3 ?_
 generalize (fo.elim Value.none fun f=>rawInt f)=fv
 have oth:∀ b,b ≠ T→(s.heap.update T (Obj.mapFields (·.setIfInBounds 3 fv))).get? b=s.heap.get? b:=fun b hb=>Heap.get?_update_other _ _ (Ne.symm hb)
 have hTfr:T ∉ frs X.stack:=ExAt.ziL I hT hdT
 have hd3:=Obj.data_mapFields hdT (·.setIfInBounds 3 fv)
 refine q _ (I.recs t (ch:=[T]) (fun b hb=>?_) (fun b o _ hc e=>(oth b (fun z=>hc (by rw [z];exact List.mem_singleton.mpr rfl))).trans e) fun b o hb e=>⟨o.slots,(oth b (fun z=>hTfr (z ▸ hb))).trans e⟩)
  ⟨hx0,hxH,oe,vs,(oth x (Ne.symm hTx)).trans he,rfl,rfl,hd,hsz, .inr ⟨T,_,_,h1,hTx,hT0,hTH,Heap.get?_update_self _ hT (Obj.isFreed_of_fields hd3),hd3,by simpa using h3⟩⟩
 rw [List.mem_singleton.mp hb]
 exact ⟨hT0,hTH,oT,ts,hT,hdT⟩
end
abbrev WX:=St→Value→Option Addr→Hp→Prop
def XE (X:Cx) (W:WX):Value→Shared→Prop:=fun e s'=>∃ σ H' x cls dx,e = .ref x∧Inv X [] σ H' s'∧ExAt X.s₀.heap s'.heap H' x cls dx false∧W σ cls dx H'
section
variable {X:Cx}
theorem zlC (t:Top1 X) {W:WX}:PassesOwn (model X.prog X.w) X.A X.env (XE X W):=by
 rintro e s' ⟨σ,H',x,cls,dx,rfl,I,ex,w⟩
 unfold notedBy
 refine zhf I t ex fun h1 I1 e1=>?_
 unfold cameBackBy
 obtain ⟨hx0,hxH,oe,vs,he,hc,hdx,hd,hsz,tb'⟩:=id e1
 rcases tb' with ⟨z,_⟩ | ⟨T,oT,ts,h1',hTx,hT0,hTH,hT,hdT,h3⟩
 ·cases z
 refine wpAny_bind (wpAny_field he hd h1' ?_)
 rw [if_neg (show ¬ ((Value.ref T == Value.none)=true) from by simp)]
 exact ze2 I1 t e1 fun h2 I2 e2=>⟨σ,H',x,cls,dx,rfl,I2,e2.any,w⟩
def CXE (P:Program) (w:World):CXT:=fun outer H s E e s'=>∃ x cls dx H',e = .ref x∧s'.os=s.os∧AllBare s'.gens∧Un (frs outer) [] H H' s.heap s'.heap∧HOk P w H' s'.heap∧ExAt s.heap s'.heap H' x cls dx true∧E cls dx H'
end
end L2
namespace L2
open PySem PySem.Spec PyProof.Rows
structure zdK (X:Cx) (W:WX):Prop where
 top:Top1 X
 ex:X.ex=[]
 to:∀ e s',XE X W e s'→X.xe e s'
 passes:PassesOwn (model X.prog X.w) X.A X.env X.xe
theorem zdK.of {X:Cx} (t:Top1 X) (hx:X.ex=[]) (W:WX):zdK (X.wish (XE X W)) W where
 top:=⟨t.stk,t.frm,t.pn⟩
 ex:=hx
 to:=fun e s' ⟨σ,H',x,cls,dx,a,I,b,c⟩=>⟨σ,H',x,cls,dx,a,I.zbV,b,c⟩
 passes:=zlC t
theorem Inv.zk2 {X:Cx} {pins:List (Addr × Obj)} {σ:St} {H:Hp} {s:Shared} (I:Inv X pins σ H s):Inv X [] σ H s:=I.zfu fun p hp=>absurd hp (by simp)
theorem Inv.first {X:Cx} {pins:List (Addr × Obj)} {σ:St} {H:Hp} {s:Shared} (I:Inv X pins σ H s) (hx:X.ex=[]) {b:Addr} (h:s.heap.get? b=none):X.s₀.heap.get? b=none:=by
 cases e:X.s₀.heap.get? b with
 | none=>rfl
 | some o =>
  obtain ⟨o',e'⟩:=I.base.there b o e (by rw [hx];simp)
  rw [h] at e';cases e'
theorem ExAt.first {X:Cx} {pins:List (Addr × Obj)} {σ:St} {H H':Hp} {s:Shared} {h':Heap} {x:Addr} {cls:Value} {dx:Option Addr} {tb:Bool} (I:Inv X pins σ H s) (hx:X.ex=[]) (e:ExAt s.heap h' H' x cls dx tb) :
  ExAt X.s₀.heap h' H' x cls dx tb:=by
 obtain ⟨a,b,oe,vs,c1,c2,c3,c4,c5,c6⟩:=e
 refine ⟨I.first hx a,b,oe,vs,c1,c2,c3,c4,c5,c6.imp id fun ⟨T,oT,ts,d1,d2,d3,d4,d5,d6,d7⟩=>⟨T,oT,ts,d1,d2,I.first hx d3,d4,d5,d6,d7⟩⟩
theorem zbS.at {P:Program} {w:World} {H:Hp} {h:Heap} {a:Addr} {o:HO} (x:zbS P w H h a o):∃ ob,h.get? a=some ob:=by
 cases o with
 | lst xs=>obtain ⟨_,_,_,_,e⟩:=x;exact ⟨_,e⟩
 | tup xs=>obtain ⟨_,_,_,_,e,_⟩:=x;exact ⟨_,e⟩
 | dK kvs=>obtain ⟨_,_,_,_,o,_,_,e,_⟩:=x;exact ⟨_,e⟩
 | dT kvs=>obtain ⟨_,_,_,_,o,_,_,e,_⟩:=x;exact ⟨_,e⟩
 | set S n=>obtain ⟨o,_,_,_,e,_⟩:=x;exact ⟨_,e⟩
 | ins C dx fs=>obtain ⟨_,_,_,e,_⟩:=x;exact ⟨_,e⟩
 | own y=>exact x
 | xd fs=>obtain ⟨_,⟨_,_,_,e,_⟩,_⟩:=x;exact ⟨_,e⟩
 | rng lo hi=>obtain ⟨_,_,_,e⟩:=x;exact ⟨_,e⟩
 | frz ob u=>obtain ⟨e,_⟩:=x;exact ⟨_,e⟩
 | tbl ps=>exact ⟨_,show h.get? a=some _ from x⟩
 | met f y=>exact ⟨_,show h.get? a=some _ from x⟩
 | ext φ=>obtain ⟨_,e,_⟩:=x;exact e
section
variable {P:Program} {w:World} {K:PySem.W.Frag} {mg:Str→Option Value} {base:Heap}
abbrev cxX (P:Program) (w:World) (K:PySem.W.Frag) (mg:Str→Option Value) (base:Heap) (N:List Str) (qual:Str) (scope:Scope) (f:Addr) (cd:Value) (A:Around) (outer:List Env) (s:Shared) (H:Hp) (E:XK):Cx :=
 (cxOf (CXE P w) P w K mg base N qual scope f cd A outer s H E).wish (XE (cxOf (CXE P w) P w K mg base N qual scope f cd A outer s H E) fun _=>E)
theorem zd9 {CX:CXT} {N:List Str} {qual:Str} {scope:Scope} {f:Addr} {cd:Value} {A:Around} {outer:List Env} {s:Shared} {H:Hp} {E:XK}:Top1 (cxOf CX P w K mg base N qual scope f cd A outer s H E):=⟨rfl,rfl,rfl⟩
theorem zak {N:List Str} {qual:Str} {scope:Scope} {f:Addr} {cd:Value} {A:Around} {outer:List Env} {s:Shared} {H:Hp} {E:XK}:zdK (cxX P w K mg base N qual scope f cd A outer s H E) (fun _=>E):=zdK.of zd9 rfl _
theorem zhu {N:List Str} {qual:Str} {scope:Scope} {f:Addr} {cd:Value} {A:Around} {outer:List Env} {s:Shared} {H:Hp} {E:XK} {st:List Stmt} {t:TS} (h:PSs (cxX P w K mg base N qual scope f cd A outer s H E) st t) :
  PSs (cxOf (CXE P w) P w K mg base N qual scope f cd A outer s H E) st t:=by
 intro pins s1 σ H1 D I hw
 refine wpAny_mono (h pins s1 σ H1 D (I.wish _) hw) (fun _ _ q=>q.zbV) fun e s' hx=>?_
 obtain ⟨σ',H',x,cls,dx,rfl,I',ex,q⟩:=hx
 show wpAny _ _ (leaving _ _) _ _ _
 unfold leaving
 refine wpAny_bind (zhf (E:=fun e' s''=>CXE P w outer H s E e' s'') I' zd9 ex fun h1 I1 e1=>?_)
 refine ze2 I1 zd9 e1 fun h2 I2 e2=>?_
 exact ⟨x,cls,dx,H',rfl,I2.os,I2.bare,I2.base,I2.hok,e2,q⟩
structure DefX (P:Program) (w:World) (K:PySem.W.Frag) (mg:Str→Option Value) (base:Heap) (x:Str) (k:Nat) (ps:List Str) (sp:Sp):Prop where
 ex:∃ f fd,FnOk P w K mg base (CXE P w) k f fd ps sp∧mg x=some (.ref f)∧PySem.W.keepIn K (.ref f)=true∧Binds K fd ps []
theorem DefX.of {x:Str} {st:Stmt} {N ps:List Str} {k:Nat} {sp:Sp} (h:HasFn K mg x st) (S:zaw N ps (zab st))
  (bind:∀ (kV doc pm:Value) (an:Option Addr) (cdv ct:Value) (us:List Value),us.length=ps.length→bindArgs (PySem.W.fnOf x x (zax st) (zal st) (zab st) .none kV doc pm an cdv ct) ⟨us,[]⟩ = pure (ps.zip us))
  (len:∀ vs H Q E,sp vs H Q E→vs.length=ps.length)
  (hbody:∀ (f:Addr) (cdv:Value) (A:Around) (outer:List Env) (s:Shared) (H:Hp) (vs:List V) (Q:VK) (E:XK),Room k (A.deeper (envOfC x (zab st) s.heap.objs.size f cdv))→sp vs H Q E →
   ∃ t,PSs (cxX P w K mg base N x (zab st) f cdv A outer s H E) (zal st) t∧t { nx:=fun _ H'=>Q .non H',rt:=Q } (start N vs) H):DefX P w K mg base x (k + 1) ps sp:=by
 obtain ⟨f,fd,hm,F⟩:=h.ex
 refine ⟨f,fd,?_,hm,F.kp,F.binds bind⟩
 obtain ⟨oc,od,kV,doc,pm,an,cdv,ct,osl,rfl,lk,hcd⟩:=F.ex
 refine ziI lk hcd S len fun A outer s H vs Q E hr hsp=>?_
 obtain ⟨t,h,q⟩:=hbody f cdv A outer s H vs Q E hr hsp
 exact ⟨t,zhu h,q⟩
end
section
variable {X:Cx} {W:WX} {x:Str} {p pos np cpos:Pos} {e:Expr} {es:List Expr} {t:TA}
def zk0 (sp:Sp) (W:WX) (t:TA):TE:=fun σ H Q=>t σ H fun vs H1=>sp vs H1 Q fun cls dx H'=>W σ cls dx H'
theorem zkv {k:Nat} {ps:List Str} {sp:Sp} (T:zdK X W) (D:DefX X.prog X.w X.K X.mg X.base x k ps sp) (hr:Room k X.A) (hg:Gl X x) (ha:PA X (e :: es) t)
  (hdb:(x == ("__debug__" : Str))=false:=by decide) (he:starEach (e :: es) X.env=(false,eval e X.env) :: starEach es X.env:=by rfl) (hpl:(backTo pos (starEach es X.env)).any (·.1)=false:=by rfl) :
  PE X (.Call (.Name x p) (e :: es) [] pos) (zk0 sp W t):=by
 obtain ⟨f,fd,F,hm,hk,hb⟩:=D.ex
 intro pins s σ H Q I h
 refine wpAny_Call_Name_kw (zg8 I hg hm ?_ hdb)
 refine PySem.W.callWith_K (h₀:=X.base) I.ok.mod.kin hk (thn (ha pos pins s σ H _ I h) fun us s1 ⟨vs,H1,I1,r,q⟩=>⟨I1.kIn,?_⟩) he hpl
 have hl:us.length=ps.length:=by rw [← r.length];exact F.len _ _ _ _ q
 have hb':=hb s1 us I1.kIn (by rw [List.append_nil];exact hl)
 rw [List.append_nil] at hb'
 refine wpAny_call (codeAny_mono (F.run X.A X.stack s1 H1 ⟨us,[]⟩ us vs Q _ hr I1.env0 hb' r q) fun r s' hq=>?_)
 cases r with
 | error ev =>
  obtain ⟨a,cls,dx,H',rfl,os,bare,un,hok,ex,q'⟩:=hq
  have I2:=(I1.zj3 os un hok bare (fun b z=>absurd z (by simp))).zk2
  exact T.to _ _ ⟨σ,H',a,cls,dx,rfl,I2,(ex.first I1 T.ex).any,q'⟩
 | ok fl =>
  cases fl with
  | ret u=>exact I1.after hq
  | next=>exact False.elim hq
  | brk=>exact False.elim hq
  | cont=>exact False.elim hq
abbrev bmVE:List Value:=[.type "ValueError", .type "Exception", .type "BaseException", .type "object"]
structure OwnE (K:PySem.W.Frag) (C:Addr):Prop where
 inK:PySem.W.excIn K C bmVE "ValueError.__new__" = true
theorem OwnE.obj {K:PySem.W.Frag} {C:Addr} (O:OwnE K C) {h:Heap} (X:K.In h):∃ bm N nm q bs hdct sn sub ab col dd k0 k1 k2 k3 k5 mN,h.get? C=some (excClassObj nm q C N bs bm hdct sn sub ab col dd k0 k1 k2 k3 k5 "ValueError.__new__")∧h.Ns N mN∧mN "__init__" = none∧OwnTail h bmVE bm:=by
 have q:=O.inK
 unfold PySem.W.excIn at q
 split at q
 ·rename_i dd cd sl ho
  split at q
  ·rename_i C' bm k0 k1 k2 k3 n k5 hm hs
   simp only [Bool.and_eq_true,beq_iff_eq,Bool.not_eq_true'] at q
   obtain ⟨⟨⟨⟨⟨rfl,rfl⟩,hdel⟩,ht⟩,hok⟩,hni⟩:=q
   obtain ⟨nm,bs,mro,ns,qn,hd,sn,sub,ab,col,del⟩:=cd
   dsimp only at hm hdel hok hni
   subst hm hdel
   have hsl:sl = #[k0,k1,k2,k3,some (.builtin "ValueError.__new__"),k5]:=by
    obtain ⟨l⟩:=sl
    simp only at hs
    rw [hs]
   subst hsl
   exact ⟨bm,ns,nm,qn,bs,hd,sn,sub,ab,col,dd,k0,k1,k2,k3,k5,_,X _ _ ho, .of_isNs (PySem.W.isNs_of_in X hok),PySem.W.nsMap_none_of_in X hok hni,PySem.W.tail_of_in X ht⟩
  ·cases q
 ·cases q
end
end L2
namespace L2
open PySem PySem.Spec PyProof.Rows
structure XC (K:PySem.W.Frag) (C:Addr):Prop where
 ob:∃ nm q N bs bm hdct sn sub ab col dd k0 k1 k2 k3 k5,K.lookup C=some (excClassObj nm q C N bs bm hdct sn sub ab col dd k0 k1 k2 k3 k5 "ValueError.__new__")
 ga:PySem.W.findIn K (.ref C) "__getattribute__" = some (some (.builtin "BaseException.__getattribute__"))
 gt:PySem.W.findIn K (.ref C) "__getattr__" = some none
 cl:PySem.W.findIn K (.ref C) "__class__" = some (some (.builtin "object.__class__"))
 be:PySem.W.subIn K (.ref C) (.type "BaseException")=some true
 oj:PySem.W.subIn K (.ref C) (.type "object")=some true
section
variable {prog:Program} {w:World} {A:Around} {E:Value→Shared→Prop} {h:Heap} {g:Array GenState} {d:Drawn} {t:Nat} {os:OsState} {a:Addr} {o:Obj} {K:PySem.W.Frag} {C:Addr}
end
end L2
namespace L2
open PySem PySem.Spec PyProof.Rows
section
variable {K:PySem.W.Frag} {C D x:Addr} {oe:Obj} {b:Bool}
theorem XC.get (c:XC K C):∃ cd,PySem.W.clsIn K C=some cd∧cd.mro.isEmpty=false∧cd.mro.contains (.ref C)=true∧PySem.W.typeIn K (.ref C)=some (.type "type"):=by
 obtain ⟨nm,q,N,bs,bm,hdct,sn,sub,ab,col,dd,k0,k1,k2,k3,k5,e⟩:=c.ob
 refine ⟨{ name:=nm,bases:=bs,mro := .ref C :: bm,ns:=N,qualname:=q,hasDict:=hdct,slotNames:=sn,subclasses:=sub,abstract:=ab,collection:=col,hasDel:=false },?_,rfl,?_,?_⟩
 ·unfold PySem.W.clsIn
  rw [e]
 ·simp
 ·show (K.lookup C).map (·.cls)=_
  rw [e]
  rfl
theorem zjz (cD:XC K D) (cC:XC K C) (s:PySem.W.subIn K (.ref D) (.ref C)=some b):PySem.W.kitOne K (.ref D) (.ref C)=some b:=by
 unfold PySem.W.kitOne
 split
 ·rename_i q
  have e:D=C:=Value.ref.inj (beq_iff_eq.mp q)
  subst e
  obtain ⟨cd,h1,h2,h3,_⟩:=cD.get
  change PySem.W.mroIn K D (.ref D)=some b at s
  unfold PySem.W.mroIn at s
  rw [h1] at s
  simp only [Option.bind_some,h2,h3] at s
  simpa using s
 ·obtain ⟨cd,h1,_,_,h4⟩:=cC.get
  unfold PySem.W.kitCls
  simp only [h1,h4]
  exact s
end
def Cx.zcz (X:Cx) (x:Addr) (oe:Obj):Cx:={ X with A:=X.A.mark (some (.ref x)),calm:=false,pn:=X.pn ++ [(x,oe)],xe:=fun _ _=>False }
theorem Cx.Ok.zcz {X:Cx} (ok:X.Ok) (x:Addr) (oe:Obj):(X.zcz x oe).Ok :=
 ⟨ok.mod,ok.kind,ok.glob,ok.blt,ok.above,ok.inj,ok.has,ok.cab,fun h=>Bool.noConfusion h,ok.frames,ok.stk,ok.exf,ok.bs,ok.bsz,ok.noex,ok.exfs,ok.funs,ok.frf⟩
section
variable {X:Cx} {σ:St} {H:Hp} {s:Shared} {x:Addr} {oe:Obj}
theorem Inv.zcz (I:Inv X [] σ H s) (p:s.heap.get? x=some oe∧H x=none∧x ≠ X.env.locals∧x ∉ X.fs∧∀ v,oe.data ≠ .cell v):Inv (X.zcz x oe) [] σ H s :=
 ⟨I.ok.zcz x oe,I.os,I.bare,I.base,I.loc,I.cell,I.free,I.freeC,fun q hq=>by
  have hq:q ∈ (X.pn ++ [(x,oe)]) ++ []:=hq
  rw [List.append_nil] at hq
  rcases List.mem_append.mp hq with z | z
  ·exact I.pin q (List.mem_append_left _ z)
  ·rw [List.mem_singleton.mp z];exact p,I.hok,I.len⟩
theorem ExAt.pin {cls:Value} {dx:Option Addr} {tb:Bool} (I:Inv X [] σ H s) (t:Top1 X) (e:ExAt X.s₀.heap s.heap H x cls dx tb):∃ oe vs,oe.cls=cls∧oe.dict=dx∧oe.data = .fields vs∧s.heap.get? x=some oe∧H x=none∧x ≠ X.env.locals∧x ∉ X.fs∧∀ v,oe.data ≠ .cell v:=by
 obtain ⟨_,hxH,oe,vs,he,hc,hdx,hd,_⟩:=e
 have nf:=ExAt.ziL I he hd
 exact ⟨oe,vs,hc,hdx,hd,he,hxH,fun z=>nf (t.mem.mpr (.inl z)),fun z=>nf (t.mem.mpr (.inr z)),fun v z=>by rw [hd] at z;cases z⟩
end
section
variable {M:Model} {A:Around} {E:Value→Shared→Prop} {h:Heap} {g:Array GenState} {d:Drawn} {t:Nat} {os:OsState} {e:Addr} {oe:Obj} {K:PySem.W.Frag} {C D:Addr} {b:Bool}
end
def PSs0 (X:Cx) (st:List Stmt) (t:TS):Prop:=∀ (s:Shared) (σ:St) (H:Hp) (D:Ends),Inv X [] σ H s→t D σ H→wpAny (model X.prog X.w) X.A (execs st X.env) (SP X [] D) X.xe s
end L2
namespace L2
open PySem PySem.Spec PyProof.Rows
abbrev TH:=Addr→Value→Option Addr→TS
section
variable {X:Cx} {C:Addr} {i:Nat} {n y:Str} {np pos:Pos} {b₀:Stmt} {suite:List Stmt} {rest:List ExceptHandler} {ts th:TH}
end
section
variable {P:Program} {w:World} {K:PySem.W.Frag} {mg:Str→Option Value} {base:Heap}
theorem PSs0.nox {X:Cx} {st:List Stmt} {t:TS} (h:PSs0 X.nox st t):PSs0 X st t:=fun s σ H D I hw =>
 wpAny_mono (h s σ H D (I.wish _) hw) (fun _ _ q=>q.zbV) fun _ _ z=>False.elim z
end
end L2
namespace L2
open PySem PySem.Spec PyProof.Rows
def zlS (scope sc:Scope) (N:List Str) (js:List Nat):Bool :=
 scope.kind == .function && (scope.names.all fun y=>y.2 != .cell && (y.2 != .local || scope.names.lookup y.1 == some .local) && (y.2 != .free || (sc.names.lookup y.1 == some .cell || sc.names.lookup y.1 == some .free))) &&
 js.all fun j=>match N[j]? with
  | some x=>scope.names.lookup x == some .free
  | none=>false
theorem LcOk.of {X:Cx} {scope:Scope} {ls:List Str} {js:List Nat} (sc:Scope) (N:List Str) (hsc:X.env.scope=sc) (hN:X.N=N) (ok:zlS scope sc N js=true):LcOk X scope ls js:=by
 unfold zlS at ok
 rw [Bool.and_eq_true,Bool.and_eq_true] at ok
 obtain ⟨⟨h1,h2⟩,h3⟩:=ok
 rw [List.all_eq_true] at h2 h3
 refine ⟨by simpa using h1,fun y hy=>?_,fun y hy hl=>?_,fun y hy hf=>?_,fun j hj=>?_⟩
 ·have q:=h2 y hy
  rw [Bool.and_eq_true,Bool.and_eq_true] at q
  simpa using q.1.1
 ·have q:=h2 y hy
  rw [Bool.and_eq_true,Bool.and_eq_true] at q
  simpa [hl] using q.1.2
 ·have q:=h2 y hy
  rw [Bool.and_eq_true,Bool.and_eq_true] at q
  have q2:=q.2
  rw [hf] at q2
  unfold Env.kindOf
  rw [hsc]
  simpa using q2
 ·have q:=h3 j hj
  rw [hN]
  cases e:N[j]? with
  | none=>rw [e] at q;cases q
  | some x=>rw [e] at q;exact ⟨x,rfl,by simpa using q⟩
theorem Kept.same {l:Addr} {H H':Hp} (e:Kept l H H') (hl:H l=none):Same H H':=fun b o h=>e b o (zau h hl) h
end L2
namespace L2
open PySem PySem.Spec PyProof.Rows
end L2
namespace L2
open PySem PySem.Spec PyProof.Rows
section
variable {X:Cx}
end
end L2
namespace L2
open PySem PySem.Spec PyProof.Rows
section
variable {X:Cx}
end
theorem Rows.take {K:PySem.W.Frag} {H:Hp}:∀ {xs:List V} {rs:List (List Int)} (k:Nat),Rows K H xs rs→Rows K H (xs.take k) (rs.take k)
 | _,_,0,_ => .nil
 | _,_,_ + 1, .nil => .nil
 | _,_,k + 1, .cons q t => .cons q (Rows.take k t)
theorem Rows.append {K:PySem.W.Frag} {H:Hp}:∀ {xs ys:List V} {rs qs:List (List Int)},Rows K H xs rs→Rows K H ys qs→Rows K H (xs ++ ys) (rs ++ qs)
 | _,_,_,_, .nil,h=>h
 | _,_,_,_, .cons q t,h => .cons q (Rows.append t h)
end L2
namespace V2
open PySem PySem.Spec PyProof.Rows L2
inductive A where
 | int (i:Int) | bl (b:Bool) | str (x:Str) | non | ty (n:String) | adr (p:Addr) | exn (p d:Addr) (f:Str) (i:Int) | gl (x:Str) | scr (ns:List Int)
 | tup (ds:List A) | lst (ds:List A) | cel (k:Nat)
inductive Fd where
 | val (a:A) | lst (ds:List A) | dct (kvs:List (Key × A))
@[simp] def Fd.own:Fd→Bool
 | .val _=>false
 | _=>true
inductive Cell where
 | lst (ds:List A) | dct (kvs:List (Key × A)) | ins (cls:Str) (fs:List (Str × Fd)) | tab (x:Str) (pos:Pos) (qual:Str) | dead
@[simp] def Cell.noOwn:Cell→Bool
 | .ins _ fs=>fs.all fun p=>!p.2.own
 | _=>true
structure Exc where
 cls:Str
 fs:List (Str × A)
inductive Rs (α:Type) where
 | ok (a:α) | exc (x:Exc)
abbrev Sto:=List Cell
abbrev Ev:=List (Option A)
abbrev Mo (α:Type):=Sto→Option (Rs α × Sto)
@[simp] def ret {α:Type} (a:α):Mo α:=fun Ω=>some (.ok a,Ω)
@[simp] def mb {α β:Type} (m:Mo α) (k:α→Mo β):Mo β:=fun Ω =>
 match m Ω with
 | some (.ok a,Ω1)=>k a Ω1
 | some (.exc x,Ω1)=>some (.exc x,Ω1)
 | none=>none
@[simp] def stuck {α:Type}:Mo α:=fun _=>none
@[simp] def need {α:Type} (o:Option α):Mo α:=fun Ω=>o.map fun a=>(.ok a,Ω)
@[simp] def chk (p:Prop) [Decidable p] : Mo Unit:=fun Ω=>if p then some (.ok (),Ω) else none
mutual
def Den (K:PySem.W.Frag) (G:Hp) (ι:List Addr):V→A→Prop
 | v, .int j=>v = .int j
 | v, .bl b=>v = .bl b
 | v, .str x=>v = .str x
 | v, .non=>v = .non
 | v, .ty n=>v = .ty n
 | v, .adr p=>v = .ref p
 | v, .exn p d f i=>v = .ref p∧G d=some (.xd [(f, .int i)])
 | v, .gl x=>∃ C,PySem.W.nsIn K mainGlobals x=some (some (.ref C))∧v = .ref C
 | v, .scr ns=>∃ a,v = .ref a∧SqL K G a (ns.map V.int)
 | v, .tup ds=>∃ a xs,v = .ref a∧G a=some (.tup xs)∧DenL K G ι xs ds
 | v, .lst ds=>∃ a xs,v = .ref a∧G a=some (.lst xs)∧DenL K G ι xs ds
 | v, .cel k=>∃ a,v = .ref a∧ι[k]? = some a
def DenL (K:PySem.W.Frag) (G:Hp) (ι:List Addr):List V→List A→Prop
 | xs,[]=>xs=[]
 | xs,d :: ds=>∃ x r,xs=x :: r∧Den K G ι x d∧DenL K G ι r ds
end
structure Ext (G:Hp) (ι:List Addr) (G':Hp) (ι':List Addr):Prop where
 same:Same G G'
 pre:∀ (k:Nat) (a:Addr),ι[k]? = some a→ι'[k]? = some a
theorem Ext.refl (G:Hp) (ι:List Addr):Ext G ι G ι:=⟨Same.refl _,fun _ _ h=>h⟩
theorem Ext.trans {G G1 G2:Hp} {ι ι1 ι2:List Addr} (a:Ext G ι G1 ι1) (b:Ext G1 ι1 G2 ι2):Ext G ι G2 ι2:=⟨a.same.trans b.same,fun k x h=>b.pre k x (a.pre k x h)⟩
section
variable {K:PySem.W.Frag} {G G':Hp} {ι ι':List Addr}
mutual
theorem Den.ext (e:Ext G ι G' ι'):∀ {v:V} {d:A},Den K G ι v d→Den K G' ι' v d
 | _, .int _,h=>by simpa only [Den] using h
 | _, .bl _,h=>by simpa only [Den] using h
 | _, .str _,h=>by simpa only [Den] using h
 | _, .non,h=>by simpa only [Den] using h
 | _, .ty _,h=>by simpa only [Den] using h
 | _, .adr _,h=>by simpa only [Den] using h
 | _, .exn _ _ _ _,h=>by
  simp only [Den] at h ⊢
  exact ⟨h.1,e.same _ _ h.2⟩
 | _, .gl _,h=>by simpa only [Den] using h
 | _, .scr _,h=>by
  simp only [Den] at h ⊢
  obtain ⟨a,h1,h2⟩:=h
  exact ⟨a,h1,e.same.seq h2⟩
 | _, .tup ds,h=>by
  simp only [Den] at h ⊢
  obtain ⟨a,xs,h1,h2,h3⟩:=h
  exact ⟨a,xs,h1,e.same _ _ h2,DenL.ext e h3⟩
 | _, .lst ds,h=>by
  simp only [Den] at h ⊢
  obtain ⟨a,xs,h1,h2,h3⟩:=h
  exact ⟨a,xs,h1,e.same _ _ h2,DenL.ext e h3⟩
 | _, .cel k,h=>by
  simp only [Den] at h ⊢
  obtain ⟨a,h1,h2⟩:=h
  exact ⟨a,h1,e.pre _ _ h2⟩
theorem DenL.ext (e:Ext G ι G' ι'):∀ {xs:List V} {ds:List A},DenL K G ι xs ds→DenL K G' ι' xs ds
 | _,[],h=>by simpa only [DenL] using h
 | _,d :: ds,h=>by
  simp only [DenL] at h ⊢
  obtain ⟨x,r,h1,h2,h3⟩:=h
  exact ⟨x,r,h1,Den.ext e h2,DenL.ext e h3⟩
end
theorem zbl {xs:List V}:DenL K G ι xs []↔xs=[]:=by simp only [DenL]
theorem DenL.length:∀ {xs:List V} {ds:List A},DenL K G ι xs ds→xs.length=ds.length
 | _,[],h=>by simp only [DenL] at h;subst h;rfl
 | _,d :: ds,h=>by
  simp only [DenL] at h
  obtain ⟨x,r,rfl,h2,h3⟩:=h
  simp only [List.length_cons,DenL.length h3]
theorem DenL.nil:DenL K G ι [] []:=by simp only [DenL]
theorem DenL.cons {x:V} {xs:List V} {d:A} {ds:List A} (h:Den K G ι x d) (t:DenL K G ι xs ds):DenL K G ι (x :: xs) (d :: ds):=by
 simp only [DenL];exact ⟨x,xs,rfl,h,t⟩
theorem DenL.zbK {xs:List V} {d:A} {ds:List A} (h:DenL K G ι xs (d :: ds)):∃ x r,xs=x :: r∧Den K G ι x d∧DenL K G ι r ds:=by simpa only [DenL] using h
theorem DenL.get:∀ {xs:List V} {ds:List A} {i:Nat} {d:A},DenL K G ι xs ds→ds[i]? = some d→∃ x,xs[i]? = some x∧Den K G ι x d
 | _,[],_,_,_,e=>by simp at e
 | _,_ :: _,0,_,h,e=>by
  obtain ⟨x,r,rfl,h2,h3⟩:=h.zbK
  simp at e;subst e;exact ⟨x,rfl,h2⟩
 | _,_ :: _,i + 1,_,h,e=>by
  obtain ⟨x,r,rfl,h2,h3⟩:=h.zbK
  simp at e
  obtain ⟨y,q1,q2⟩:=DenL.get h3 e
  exact ⟨y,by simpa using q1,q2⟩
theorem DenL.append:∀ {xs ys:List V} {ds es:List A},DenL K G ι xs ds→DenL K G ι ys es→DenL K G ι (xs ++ ys) (ds ++ es)
 | _,_,[],_,h,t=>by rw [zbl] at h;subst h;exact t
 | _,_,d :: ds,_,h,t=>by
  obtain ⟨x,r,rfl,h2,h3⟩:=h.zbK
  exact .cons h2 (DenL.append h3 t)
theorem DenL.take:∀ {xs:List V} {ds:List A} (n:Nat),DenL K G ι xs ds→DenL K G ι (xs.take n) (ds.take n)
 | _,_,0,_=>by simpa using DenL.nil
 | _,[],n + 1,h=>by rw [zbl] at h;subst h;exact DenL.nil
 | _,d :: ds,n + 1,h=>by
  obtain ⟨x,r,rfl,h2,h3⟩:=h.zbK
  exact .cons h2 (DenL.take n h3)
theorem DenL.drop:∀ {xs:List V} {ds:List A} (n:Nat),DenL K G ι xs ds→DenL K G ι (xs.drop n) (ds.drop n)
 | _,_,0,h=>by simpa using h
 | _,[],n + 1,h=>by rw [zbl] at h;subst h;exact DenL.nil
 | _,d :: ds,n + 1,h=>by
  obtain ⟨x,r,rfl,h2,h3⟩:=h.zbK
  exact DenL.drop n h3
theorem DenL.set {x:V} {d:A} (hx:Den K G ι x d):∀ {xs:List V} {ds:List A} (n:Nat),DenL K G ι xs ds→DenL K G ι (xs.set n x) (ds.set n d)
 | _,[],n,h=>by rw [zbl] at h;subst h;exact DenL.nil
 | _,e :: ds,0,h=>by
  obtain ⟨y,r,rfl,h2,h3⟩:=h.zbK
  exact .cons hx h3
 | _,e :: ds,n + 1,h=>by
  obtain ⟨y,r,rfl,h2,h3⟩:=h.zbK
  exact .cons h2 (DenL.set hx n h3)
theorem zeC:∀ (ns:List Int),DenL K G ι (ns.map V.int) (ns.map A.int)
 | [] => .nil
 | n :: ns => .cons (by simp only [Den]) (zeC ns)
end
def zmF (K:PySem.W.Frag) (G H:Hp) (a:Addr) (x:Str) (pos:Pos) (qual:Str):Prop :=
 G a=none∧(∃ c,PySem.W.tabIn K x=some (c,a))∧∃ ps,H a=some (.tbl ps)∧TriplesOk ps.toList ∧
  (codeAmong pos ps.toList=none∨∃ c' oc vs t,codeAmong pos ps.toList=some (.ref c')∧G c'=some (.frz oc (.own 0))∧oc.data = .fields vs∧vs[1]? = some (.str qual t))
def FdOk (K:PySem.W.Frag) (G:Hp) (ι:List Addr) (H:Hp) (v:V):Fd→Prop
 | .val a=>Den K G ι v a
 | .lst ds=>∃ b xs,v = .ref b∧G b=none∧b ∉ ι∧H b=some (.lst xs)∧DenL K G ι xs ds
 | .dct kvs=>∃ b,∃ ws:List (Key × V),v = .ref b∧G b=none∧b ∉ ι∧H b=some (.dK ws)∧ws.map (·.1)=kvs.map (·.1)∧DenL K G ι (ws.map (·.2)) (kvs.map (·.2))
def zbo (K:PySem.W.Frag) (G:Hp) (ι:List Addr) (H:Hp):List (Str × V)→List (Str × Fd)→Prop
 | [],[]=>True
 | (f,v) :: ws,(g,d) :: fs=>f=g∧FdOk K G ι H v d∧zbo K G ι H ws fs
 | _,_=>False
def zbL (K:PySem.W.Frag) (G:Hp) (ι:List Addr) (H:Hp) (a:Addr):Cell→Prop
 | .lst ds=>G a=none∧∃ xs,H a=some (.lst xs)∧DenL K G ι xs ds
 | .dct kvs=>G a=none∧∃ ws:List (Key × V),H a=some (.dK ws)∧ws.map (·.1)=kvs.map (·.1)∧DenL K G ι (ws.map (·.2)) (kvs.map (·.2))
 | .ins cls fs=>G a=none∧∃ C dx,∃ ws:List (Str × V),PySem.W.nsIn K mainGlobals cls=some (some (.ref C))∧H a=some (.ins C dx ws)∧zbo K G ι H ws fs
 | .tab x pos qual=>zmF K G H a x pos qual
 | .dead=>True
def zbn (H:Hp) (ι:List Addr) (Ω:Sto) (k i:Nat) (b:Addr):Prop:=∃ a cls fs C dx ws g h fd,ι[k]? = some a∧Ω[k]? = some (.ins cls fs)∧H a=some (.ins C dx ws)∧fs[i]? = some (g,fd)∧fd.own=true∧ws[i]? = some (h, .ref b)
structure Wd (K:PySem.W.Frag) (G:Hp) (ι:List Addr) (Ω:Sto) (H:Hp):Prop where
 sub:Same G H
 inj:ι.Nodup
 len:ι.length=Ω.length
 live:∀ a ∈ ι,∃ o,H a=some o
 cel:∀ (k:Nat) (c:Cell) (a:Addr),Ω[k]? = some c→ι[k]? = some a→zbL K G ι H a c
 sep:∀ (b:Addr) (k i k' i':Nat),zbn H ι Ω k i b→zbn H ι Ω k' i' b→k=k'∧i=i'
section
variable {K:PySem.W.Frag} {G G' H H':Hp} {ι ι':List Addr} {Ω:Sto} {a p:Addr}
theorem FdOk.mono {v:V} {fd:Fd} (h:FdOk K G ι H v fd) (e:Ext G ι G' ι') (ho:∀ b o,b ∉ ι→G b=none→H b=some o→b ∉ ι'∧G' b=none∧H' b=some o):FdOk K G' ι' H' v fd:=by
 cases fd with
 | val a=>exact Den.ext e h
 | lst ds =>
  obtain ⟨b,xs,h1,h2,h3,h4,h5⟩:=h
  obtain ⟨q1,q2,q3⟩:=ho b _ h3 h2 h4
  exact ⟨b,xs,h1,q2,q1,q3,h5.ext e⟩
 | dct kvs =>
  obtain ⟨b,ws,h1,h2,h3,h4,h5,h6⟩:=h
  obtain ⟨q1,q2,q3⟩:=ho b _ h3 h2 h4
  exact ⟨b,ws,h1,q2,q1,q3,h5,h6.ext e⟩
theorem zbo.map {K':PySem.W.Frag} {G' H':Hp} {ι':List Addr} (f:∀ v fd,FdOk K G ι H v fd→FdOk K' G' ι' H' v fd):∀ {ws:List (Str × V)} {fs:List (Str × Fd)},zbo K G ι H ws fs→zbo K' G' ι' H' ws fs
 | [],[],_=>trivial
 | (_,_) :: _,(_,_) :: _,h=>⟨h.1,f _ _ h.2.1,zbo.map f h.2.2⟩
 | [],_ :: _,h=>h.elim
 | _ :: _,[],h=>h.elim
theorem zbL.mono {c:Cell} (h:zbL K G ι H a c) (e:Ext G ι G' ι') (hg:G' a=G a) (hh:H' a=H a) (ho:∀ b o,b ∉ ι→G b=none→H b=some o→b ∉ ι'∧G' b=none∧H' b=some o):zbL K G' ι' H' a c:=by
 cases c with
 | lst ds=>obtain ⟨g,xs,h1,h2⟩:=h;exact ⟨hg.trans g,xs,hh.trans h1,h2.ext e⟩
 | dct kvs=>obtain ⟨g,ws,h1,h2,h3⟩:=h;exact ⟨hg.trans g,ws,hh.trans h1,h2,h3.ext e⟩
 | ins cls fs=>obtain ⟨g,C,dx,ws,h0,h1,h2⟩:=h;exact ⟨hg.trans g,C,dx,ws,h0,hh.trans h1,h2.map fun _ _ q=>q.mono e ho⟩
 | tab x pos qual =>
  obtain ⟨g,hc,ps,h1,h2,h3⟩:=h
  exact ⟨hg.trans g,hc,ps,hh.trans h1,h2,h3.imp id fun ⟨c',oc,vs,t,q1,q2,q3⟩=>⟨c',oc,vs,t,q1,e.same _ _ q2,q3⟩⟩
 | dead=>trivial
theorem Wd.addr (w:Wd K G ι Ω H) {k:Nat} {c:Cell} (h:Ω[k]? = some c):∃ a,ι[k]? = some a:=by
 have hk:=(List.getElem?_eq_some_iff.mp h).1
 exact ⟨ι[k]'(by rw [w.len];exact hk),List.getElem?_eq_getElem _⟩
theorem Wd.ne (w:Wd K G ι Ω H) (hp:H p=none) (ha:a ∈ ι):a ≠ p:=by
 obtain ⟨o,ho⟩:=w.live a ha
 exact zau ho hp
theorem Wd.zdc (w:Wd K G ι Ω H) (hp:H p=none):G p=none:=by
 cases e:G p with
 | none=>rfl
 | some o=>rw [w.sub _ _ e] at hp;cases hp
theorem zbn.to {k i:Nat} {b:Addr} {ι':List Addr} {Ω Ω':Sto} (h:zbn H ι Ω k i b) (h1:∀ a,ι[k]? = some a→ι'[k]? = some a∧∀ o,H a=some o→H' a=some o) (h2:∀ cls fs,Ω[k]? = some (.ins cls fs)→Ω'[k]? = some (.ins cls fs)):zbn H' ι' Ω' k i b:=by
 obtain ⟨a,cls,fs,C,dx,ws,g,h',fd,q1,q2,q3,q4,q5,q6⟩:=h
 exact ⟨a,cls,fs,C,dx,ws,g,h',fd,(h1 a q1).1,h2 _ _ q2,(h1 a q1).2 _ q3,q4,q5,q6⟩
theorem zbn.no {k i:Nat} {b:Addr} {c:Cell} (h:zbn H ι Ω k i b) (hc:Ω[k]? = some c) (hn:c.noOwn=true):False:=by
 obtain ⟨a,cls,fs,C,dx,ws,g,h',fd,q1,q2,q3,q4,q5,q6⟩:=h
 rw [hc] at q2
 cases q2
 simp only [Cell.noOwn,List.all_eq_true] at hn
 have:=hn _ (List.mem_of_getElem? q4)
 simp only [] at this
 rw [q5] at this
 cases this
theorem Wd.grow (w:Wd K G ι Ω H) (s:Same H H'):Wd K G ι Ω H' where
 sub:=w.sub.trans s
 inj:=w.inj
 len:=w.len
 live:=fun a ha=>let ⟨o,ho⟩:=w.live a ha; ⟨o,s _ _ ho⟩
 cel:=fun k c a h1 h2=>by
  have q:=w.cel k c a h1 h2
  cases c with
  | lst ds=>obtain ⟨g,xs,h1,h2⟩:=q;exact ⟨g,xs,s _ _ h1,h2⟩
  | dct kvs=>obtain ⟨g,ws,h1,h2,h3⟩:=q;exact ⟨g,ws,s _ _ h1,h2,h3⟩
  | ins cls fs=>obtain ⟨g,C,dx,ws,h0,h1,h2⟩:=q;exact ⟨g,C,dx,ws,h0,s _ _ h1,h2.map fun _ _ q=>q.mono (Ext.refl _ _) fun b o x y z=>⟨x,y,s _ _ z⟩⟩
  | tab x pos qual =>
   obtain ⟨g,hc,ps,h1,h2⟩:=q
   exact ⟨g,hc,ps,s _ _ h1,h2⟩
  | dead=>trivial
 sep:=fun b k i k' i' h1 h2=>by
  have back:∀ {k i},zbn H' ι Ω k i b→zbn H ι Ω k i b:=fun h=>h.to (fun a ha=>⟨ha,fun o ho=>by
   obtain ⟨o',ho'⟩:=w.live a (List.mem_of_getElem? ha)
   have:=s _ _ ho'
   rw [ho] at this;cases this;exact ho'⟩) fun _ _ q=>q
  exact w.sep b k i k' i' (back h1) (back h2)
theorem zbB {α:Type}:∀ {l:List α} {i j:Nat} {x:α},l.Nodup→l[i]? = some x→l[j]? = some x→i=j
 | [],_,_,_,_,h,_=>by simp at h
 | y :: l,0,0,_,_,_,_=>rfl
 | y :: l,0,j + 1,x,n,h1,h2=>by
  simp at h1 h2;subst h1
  exact absurd (List.mem_of_getElem? h2) (List.nodup_cons.mp n).1
 | y :: l,i + 1,0,x,n,h1,h2=>by
  simp at h1 h2;subst h2
  exact absurd (List.mem_of_getElem? h1) (List.nodup_cons.mp n).1
 | y :: l,i + 1,j + 1,x,n,h1,h2=>by
  simp at h1 h2
  rw [zbB (List.nodup_cons.mp n).2 h1 h2]
theorem zbe {α:Type} {l:List α} {k:Nat} {x:α} (h:l[k]? = some x):x ∈ l:=List.mem_of_getElem? h
theorem Ext.new (hp:G p=none) (o:HO):Ext G ι (upd G p o) ι:=⟨Same.new hp,fun _ _ h=>h⟩
theorem Wd.new (w:Wd K G ι Ω H) (hp:H p=none) (o:HO):Wd K (upd G p o) ι Ω (upd H p o) where
 sub:=fun b u h=>by
  by_cases e:b=p
  ·subst e;rw [zaq] at h ⊢;exact h
  ·rw [zai e] at h ⊢;exact w.sub _ _ h
 inj:=w.inj
 len:=w.len
 live:=fun a ha=>by rw [zai (w.ne hp ha)];exact w.live a ha
 cel:=fun k c a h1 h2=>by
  have n:=w.ne hp (zbe h2)
  exact (w.cel k c a h1 h2).mono (Ext.new (w.zdc hp) o) (zai n) (zai n) fun b u x y z=>by
   have nb:b ≠ p:=zau z hp
   exact ⟨x,by rw [zai nb];exact y,by rw [zai nb];exact z⟩
 sep:=fun b k i k' i' h1 h2=>by
  have back:∀ {k i},zbn (upd H p o) ι Ω k i b→zbn H ι Ω k i b:=fun h=>h.to (fun a ha=>⟨ha,fun u hu=>by rwa [zai (w.ne hp (List.mem_of_getElem? ha))] at hu⟩) fun _ _ q=>q
  exact w.sep b k i k' i' (back h1) (back h2)
theorem Ext.cell (x:Addr):Ext G ι G (ι ++ [x]):=⟨Same.refl _,fun k a h=>by
 rw [List.getElem?_append_left (List.getElem?_eq_some_iff.mp h).1];exact h⟩
theorem Wd.cell (w:Wd K G ι Ω H) (hp:H p=none) {o:HO} {c:Cell} (hc:zbL K G (ι ++ [p]) (upd H p o) p c) (hno:c.noOwn=true:=by rfl):Wd K G (ι ++ [p]) (Ω ++ [c]) (upd H p o) where
 sub:=fun b u h=>by
  have e:b ≠ p:=fun e=>by subst e;rw [w.sub _ _ h] at hp;cases hp
  rw [zai e];exact w.sub _ _ h
 inj:=by
  rw [List.nodup_append]
  exact ⟨w.inj,by simp,fun a ha b hb=>by simp at hb;subst hb;exact w.ne hp ha⟩
 len:=by simp [w.len]
 live:=fun a ha=>by
  rcases List.mem_append.mp ha with h | h
  ·rw [zai (w.ne hp h)];exact w.live a h
  ·simp at h;subst h;exact ⟨o,zaq⟩
 cel:=fun k c' a h1 h2=>by
  by_cases hk:k < ι.length
  ·rw [List.getElem?_append_left hk] at h2
   rw [List.getElem?_append_left (by rw [← w.len];exact hk)] at h1
   exact (w.cel k c' a h1 h2).mono (Ext.cell p) rfl (zai (w.ne hp (zbe h2))) fun b u x y z=>by
    have nb:b ≠ p:=zau z hp
    exact ⟨by simp [x,nb],y,by rw [zai nb];exact z⟩
  ·have hk2:k=ι.length:=by
    have:=(List.getElem?_eq_some_iff.mp h2).1
    simp at this;omega
   subst hk2
   simp at h2;subst h2
   rw [w.len] at h1
   simp at h1;subst h1
   exact hc
 sep:=fun b k i k' i' h1 h2=>by
  have back:∀ {k i},zbn (upd H p o) (ι ++ [p]) (Ω ++ [c]) k i b→zbn H ι Ω k i b:=fun {k i} h=>by
   have h0:=h
   obtain ⟨a,cls,fs,C,dx,ws,g,h',fd,q1,q2,q3,q4,q5,q6⟩:=h
   by_cases hk:k < Ω.length
   ·rw [List.getElem?_append_left hk] at q2
    rw [List.getElem?_append_left (by rw [w.len];exact hk)] at q1
    rw [zai (w.ne hp (zbe q1))] at q3
    exact ⟨a,cls,fs,C,dx,ws,g,h',fd,q1,q2,q3,q4,q5,q6⟩
   ·have hk2:k=Ω.length:=by
     have:=(List.getElem?_eq_some_iff.mp q2).1
     simp at this;omega
    subst hk2
    exact (h0.no (by simp) hno).elim
  exact w.sep b k i k' i' (back h1) (back h2)
theorem Wd.put (w:Wd K G ι Ω H) {k:Nat} {c:Cell} {o:HO} (hk:ι[k]? = some a) (hg:G a=none) (hc:zbL K G ι (upd H a o) a c) (hno:c.noOwn=true:=by rfl):Wd K G ι (Ω.set k c) (upd H a o) where
 sub:=fun b u h=>by
  have e:b ≠ a:=fun e=>by subst e;rw [hg] at h;cases h
  rw [zai e];exact w.sub _ _ h
 inj:=w.inj
 len:=by rw [List.length_set];exact w.len
 live:=fun b hb=>by
  by_cases e:b=a
  ·subst e;exact ⟨o,zaq⟩
  ·rw [zai e];exact w.live b hb
 cel:=fun j c' b h1 h2=>by
  by_cases hj:j=k
  ·subst hj
   rw [hk] at h2;cases h2
   have hl:j < Ω.length:=by rw [← w.len];exact (List.getElem?_eq_some_iff.mp hk).1
   rw [List.getElem?_set_self hl] at h1
   cases h1;exact hc
  ·rw [List.getElem?_set_ne (Ne.symm hj)] at h1
   have hne:b ≠ a:=fun e=>by
    subst e
    exact hj (zbB w.inj h2 hk)
   exact (w.cel j c' b h1 h2).mono (Ext.refl _ _) rfl (zai hne) fun b u x y z=>by
    have nb:b ≠ a:=fun e=>by subst e;exact x (zbe hk)
    exact ⟨x,y,by rw [zai nb];exact z⟩
 sep:=fun b j i j' i' h1 h2=>by
  have back:∀ {j i},zbn (upd H a o) ι (Ω.set k c) j i b→zbn H ι Ω j i b:=fun {j i} h=>by
   have h0:=h
   obtain ⟨a',cls,fs,C,dx,ws,g,h',fd,q1,q2,q3,q4,q5,q6⟩:=h
   by_cases hj:j=k
   ·subst hj
    have hl:j < Ω.length:=by rw [← w.len];exact (List.getElem?_eq_some_iff.mp hk).1
    exact (h0.no (by rw [List.getElem?_set_self hl]) hno).elim
   ·rw [List.getElem?_set_ne (Ne.symm hj)] at q2
    have hne:a' ≠ a:=fun e=>by subst e;exact hj (zbB w.inj q1 hk)
    rw [zai hne] at q3
    exact ⟨a',cls,fs,C,dx,ws,g,h',fd,q1,q2,q3,q4,q5,q6⟩
  exact w.sep b j i j' i' (back h1) (back h2)
theorem Wd.freeze (w:Wd K G ι Ω H) {k:Nat} {o:HO} (hk:ι[k]? = some a) (hg:G a=none) (ho:H a=some o):Wd K (upd G a o) ι (Ω.set k .dead) H where
 sub:=fun b u h=>by
  by_cases e:b=a
  ·subst e;rw [zaq] at h;cases h;exact ho
  ·rw [zai e] at h;exact w.sub _ _ h
 inj:=w.inj
 len:=by rw [List.length_set];exact w.len
 live:=w.live
 cel:=fun j c' b h1 h2=>by
  by_cases hj:j=k
  ·subst hj
   have hl:j < Ω.length:=by rw [← w.len];exact (List.getElem?_eq_some_iff.mp hk).1
   rw [List.getElem?_set_self hl] at h1
   cases h1;trivial
  ·rw [List.getElem?_set_ne (Ne.symm hj)] at h1
   have hne:b ≠ a:=fun e=>by
    subst e
    exact hj (zbB w.inj h2 hk)
   exact (w.cel j c' b h1 h2).mono (Ext.new hg o) (zai hne) rfl fun b u x y z=>by
    have nb:b ≠ a:=fun e=>by subst e;exact x (zbe hk)
    exact ⟨x,by rw [zai nb];exact y,z⟩
 sep:=fun b j i j' i' h1 h2=>by
  have back:∀ {j i},zbn H ι (Ω.set k .dead) j i b→zbn H ι Ω j i b:=fun {j i} h=>by
   have h0:=h
   obtain ⟨a',cls,fs,C,dx,ws,g,h',fd,q1,q2,q3,q4,q5,q6⟩:=h
   by_cases hj:j=k
   ·subst hj
    have hl:j < Ω.length:=by rw [← w.len];exact (List.getElem?_eq_some_iff.mp hk).1
    exact (h0.no (by rw [List.getElem?_set_self hl]) rfl).elim
   ·rw [List.getElem?_set_ne (Ne.symm hj)] at q2
    exact ⟨a',cls,fs,C,dx,ws,g,h',fd,q1,q2,q3,q4,q5,q6⟩
  exact w.sep b j i j' i' (back h1) (back h2)
end
def EnvR (K:PySem.W.Frag) (G:Hp) (ι:List Addr) (σ:L2.St) (ρ:Ev):Prop:=σ.length=ρ.length∧∀ (i:Nat) (d:A),ρ[i]? = some (some d)→∃ v,σ[i]? = some (some v)∧Den K G ι v d
theorem EnvR.ext {K:PySem.W.Frag} {G G':Hp} {ι ι':List Addr} {σ:L2.St} {ρ:Ev} (r:EnvR K G ι σ ρ) (e:Ext G ι G' ι'):EnvR K G' ι' σ ρ:=⟨r.1,fun i d h=>let ⟨v,h1,h2⟩:=r.2 i d h; ⟨v,h1,h2.ext e⟩⟩
theorem EnvR.set {K:PySem.W.Frag} {G:Hp} {ι:List Addr} {σ:L2.St} {ρ:Ev} (r:EnvR K G ι σ ρ) (j:Nat) {v:V} {d:A} (h:Den K G ι v d):EnvR K G ι (σ.set j (some v)) (ρ.set j (some d)):=by
 refine ⟨by rw [List.length_set,List.length_set];exact r.1,fun i e he=>?_⟩
 by_cases hij:i=j
 ·subst hij
  have hl:i < ρ.length:=by
   have:=(List.getElem?_eq_some_iff.mp he).1
   rwa [List.length_set] at this
  rw [List.getElem?_set_self hl] at he
  cases he
  exact ⟨v,List.getElem?_set_self (by rw [r.1];exact hl),h⟩
 ·rw [List.getElem?_set_ne (Ne.symm hij)] at he ⊢
  exact r.2 i e he
def ExcR (K:PySem.W.Frag) (G:Hp) (ι:List Addr) (H:Hp) (x:Exc) (cls:Value) (dx:Option Addr):Prop :=
 (∃ C,PySem.W.nsIn K mainGlobals x.cls=some (some (.ref C))∧cls = .ref C)∧((x.fs=[]∧dx=none)∨∃ d f i,dx=some d∧x.fs=[(f, .int i)]∧G d=some (.xd [(f, .int i)]))
abbrev Rl (α β:Type):=Hp→List Addr→β→α→Prop
def Post {α β:Type} (K:PySem.W.Frag) (rel:Rl α β) (W:WX) (G:Hp) (ι:List Addr) (σ:L2.St) (Q:β→Hp→Prop):Option (Rs α × Sto)→Prop
 | some (.ok a,Ω')=>∀ v H' G' ι',Ext G ι G' ι'→Wd K G' ι' Ω' H'→rel G' ι' v a→Q v H'
 | some (.exc x,Ω')=>∀ cls dx H' G' ι',Ext G ι G' ι'→Wd K G' ι' Ω' H'→ExcR K G' ι' H' x cls dx→W σ cls dx H'
 | none=>False
theorem Post.ext {α β:Type} {K:PySem.W.Frag} {rel:Rl α β} {W:WX} {G G1:Hp} {ι ι1:List Addr} {σ:L2.St} {Q:β→Hp→Prop} {r:Option (Rs α × Sto)} (h:Post K rel W G ι σ Q r) (e:Ext G ι G1 ι1):Post K rel W G1 ι1 σ Q r:=by
 match r,h with
 | some (.ok a,Ω'),h=>exact fun v H' G' ι' x w d=>h v H' G' ι' (e.trans x) w d
 | some (.exc x,Ω'),h=>exact fun cls dx H' G' ι' x w d=>h cls dx H' G' ι' (e.trans x) w d
theorem Post.mb {α β γ δ:Type} {K:PySem.W.Frag} {rel:Rl α β} {rel':Rl γ δ} {W:WX} {G:Hp} {ι:List Addr} {σ:L2.St} {Q:δ→Hp→Prop} {Q1:β→Hp→Prop} {m:Mo α} {k:α→Mo γ} {Ω:Sto} (h:Post K rel' W G ι σ Q (mb m k Ω))
  (hk:∀ a Ω1 v H1 G1 ι1,Ext G ι G1 ι1→Wd K G1 ι1 Ω1 H1→rel G1 ι1 v a→Post K rel' W G1 ι1 σ Q (k a Ω1)→Q1 v H1):Post K rel W G ι σ Q1 (m Ω):=by
 unfold V2.mb at h
 revert h
 generalize m Ω=r
 intro h
 match r,h with
 | some (.ok a,Ω1),h=>exact fun v H1 G1 ι1 x w d=>hk a Ω1 v H1 G1 ι1 x w d (Post.ext h x)
 | some (.exc x,Ω1),h=>exact h
theorem Post.need {α β γ:Type} {K:PySem.W.Frag} {rel':Rl α β} {W:WX} {G:Hp} {ι:List Addr} {σ:L2.St} {Q:β→Hp→Prop} {o:Option γ} {k:γ→Mo α} {Ω:Sto} (h:Post K rel' W G ι σ Q (V2.mb (need o) k Ω)):∃ a,o=some a∧Post K rel' W G ι σ Q (k a Ω):=by
 cases o with
 | none=>exact False.elim h
 | some a=>exact ⟨a,rfl,h⟩
theorem Post.chk {α β:Type} {K:PySem.W.Frag} {rel':Rl α β} {W:WX} {G:Hp} {ι:List Addr} {σ:L2.St} {Q:β→Hp→Prop} {p:Prop} [Decidable p] {k:Unit→Mo α} {Ω:Sto} (h:Post K rel' W G ι σ Q (V2.mb (chk p) k Ω)):p∧Post K rel' W G ι σ Q (k () Ω):=by
 unfold V2.mb V2.chk at h
 by_cases hp:p
 ·rw [if_pos hp] at h;exact ⟨hp,h⟩
 ·rw [if_neg hp] at h;exact False.elim h
def Sim {α β:Type} (K:PySem.W.Frag) (rel:Rl α β) (W:WX) (t:L2.St→Hp→(β→Hp→Prop)→Prop) (f:Ev→Mo α):Prop :=
 ∀ G ι Ω H σ ρ Q,Wd K G ι Ω H→EnvR K G ι σ ρ→Post K rel W G ι σ Q (f ρ Ω)→t σ H Q
def relB:Rl Bool Bool:=fun _ _ b c=>b=c
def VE (X:Cx) (W:WX) (e:Expr) (f:Ev→Mo A):Prop:=∃ t,PE X e t∧Sim X.K (Den X.K) W t f
def VT (X:Cx) (W:WX) (e:Expr) (f:Ev→Mo Bool):Prop:=∃ t,PT X e t∧Sim X.K relB W t f
def VW (X:Cx) (W:WX) (e:Expr) (f:Ev→Mo Bool):Prop:=∃ t,PW X e t∧Sim X.K relB W t f
def VA (X:Cx) (W:WX) (es:List Expr) (f:Ev→Mo (List A)):Prop:=∃ t,PA X es t∧Sim X.K (DenL X.K) W t f
end V2
namespace V2
open PySem PySem.Spec PyProof.Rows L2
section
variable {K:PySem.W.Frag} {G H:Hp} {ι:List Addr} {Ω:Sto} {v:V} {a:A}
def zaj (Ω:Sto):A→Option (List A)
 | .lst ds=>some ds
 | .scr ns=>some (ns.map A.int)
 | .cel k=>match Ω[k]? with
  | some (.lst ds)=>some ds
  | _=>none
 | _=>none
def za9 (Ω:Sto):A→Option (List A)
 | .tup ds=>some ds
 | a=>zaj Ω a
theorem zaD (w:Wd K G ι Ω H) (d:Den K G ι v a) {ds:List A} (h:zaj Ω a=some ds):∃ p xs,v = .ref p∧SqL K H p xs∧DenL K G ι xs ds:=by
 cases a with
 | lst es =>
  simp only [zaj,Option.some.injEq] at h;subst h
  simp only [Den] at d
  obtain ⟨p,xs,h1,h2,h3⟩:=d
  exact ⟨p,xs,h1,SqL.of (w.sub _ _ h2),h3⟩
 | scr ns =>
  simp only [zaj,Option.some.injEq] at h;subst h
  simp only [Den] at d
  obtain ⟨p,h1,h2⟩:=d
  exact ⟨p,_,h1,w.sub.seq h2,zeC ns⟩
 | cel k =>
  simp only [zaj] at h
  cases e:Ω[k]? with
  | none=>rw [e] at h;cases h
  | some c =>
   rw [e] at h
   cases c with
   | lst es =>
    simp only [Option.some.injEq] at h;subst h
    simp only [Den] at d
    obtain ⟨p,h1,h2⟩:=d
    obtain ⟨g,xs,h3,h4⟩:=w.cel k _ p e h2
    exact ⟨p,xs,h1,SqL.of h3,h4⟩
   | _=>cases h
 | _=>simp [zaj] at h
theorem zdp (w:Wd K G ι Ω H) (d:Den K G ι v a) {ds:List A} (h:za9 Ω a=some ds):∃ p xs,v = .ref p∧(SqL K H p xs∨SqT K H p xs)∧DenL K G ι xs ds:=by
 cases a with
 | tup es =>
  simp only [za9,Option.some.injEq] at h;subst h
  simp only [Den] at d
  obtain ⟨p,xs,h1,h2,h3⟩:=d
  exact ⟨p,xs,h1, .inr (SqT.of (w.sub _ _ h2)),h3⟩
 | _ =>
  obtain ⟨p,xs,h1,h2,h3⟩:=zaD w d h
  exact ⟨p,xs,h1, .inl h2,h3⟩
theorem zfN (w:Wd K G ι Ω H) (d:Den K G ι v a) {ds:List A} (h:zaj Ω a=some ds) (hs:∀ ns,a ≠ .scr ns):∃ p xs,v = .ref p∧H p=some (.lst xs)∧DenL K G ι xs ds:=by
 cases a with
 | lst es =>
  simp only [zaj,Option.some.injEq] at h;subst h
  simp only [Den] at d
  obtain ⟨p,xs,h1,h2,h3⟩:=d
  exact ⟨p,xs,h1,w.sub _ _ h2,h3⟩
 | scr ns=>exact absurd rfl (hs ns)
 | cel k =>
  simp only [zaj] at h
  cases e:Ω[k]? with
  | none=>rw [e] at h;cases h
  | some c =>
   rw [e] at h
   cases c with
   | lst es =>
    simp only [Option.some.injEq] at h;subst h
    simp only [Den] at d
    obtain ⟨p,h1,h2⟩:=d
    obtain ⟨g,xs,h3,h4⟩:=w.cel k _ p e h2
    exact ⟨p,xs,h1,h3,h4⟩
   | _=>cases h
 | _=>simp [zaj] at h
end
@[simp] def mkL (c:Bool) (ds:List A):Mo A:=fun Ω=>if c then some (.ok (.cel Ω.length),Ω ++ [.lst ds]) else some (.ok (.lst ds),Ω)
section
variable {K:PySem.W.Frag} {G H:Hp} {ι:List Addr} {Ω:Sto} {W:WX} {σ:L2.St} {Q:VK}
theorem zhA {c:Bool} {ds:List A} {xs:List V} {p:Addr} (w:Wd K G ι Ω H) (hp:H p=none) (d:DenL K G ι xs ds) (h:Post K (Den K) W G ι σ Q (mkL c ds Ω)):Q (.ref p) (upd H p (.lst xs)):=by
 cases c with
 | true =>
  refine h _ _ G (ι ++ [p]) (Ext.cell p) (w.cell hp ⟨w.zdc hp,xs,zaq,d.ext (Ext.cell p)⟩) ?_
  simp only [Den]
  exact ⟨p,rfl,by rw [← w.len];simp⟩
 | false =>
  refine h _ _ _ _ (Ext.new (w.zdc hp) (.lst xs)) (w.new hp _) ?_
  simp only [Den]
  exact ⟨p,xs,rfl,zaq,d.ext (Ext.new (w.zdc hp) _)⟩
@[simp] def mkT (ds:List A):Mo A:=ret (.tup ds)
theorem zhF {ds:List A} {xs:List V} {p:Addr} (w:Wd K G ι Ω H) (hp:H p=none) (d:DenL K G ι xs ds) (h:Post K (Den K) W G ι σ Q (mkT ds Ω)):Q (.ref p) (upd H p (.tup xs)):=by
 refine h _ _ _ _ (Ext.new (w.zdc hp) (.tup xs)) (w.new hp _) ?_
 simp only [Den]
 exact ⟨p,xs,rfl,zaq,d.ext (Ext.new (w.zdc hp) _)⟩
theorem zbc {α β:Type} {rel:Rl α β} {Q:β→Hp→Prop} {a:α} {b:β} (w:Wd K G ι Ω H) (d:rel G ι b a) (h:Post K rel W G ι σ Q (ret a Ω)):Q b H:=h b H G ι (Ext.refl _ _) w d
end
section
variable {X:Cx} {W:WX} {e a b:Expr} {es:List Expr} {pos:Pos} {fa fb:Ev→Mo A} {fs:Ev→Mo (List A)}
@[simp] def vVar (i:Nat):Ev→Mo A:=fun ρ=>need (ρ[i]?).join
theorem join_some {α:Type} {o:Option (Option α)} {x:α} (h:o.join=some x):o=some (some x):=by
 cases o with
 | none=>cases h
 | some y=>cases y with
  | none=>cases h
  | some z=>cases h;rfl
theorem zjH {K:PySem.W.Frag} {i:Nat}:Sim K (Den K) W (tVar i) (vVar i):=by
 intro G ι Ω H σ ρ Q w r h
 unfold vVar need at h
 cases e:(ρ[i]?).join with
 | none=>rw [e] at h;exact False.elim h
 | some d =>
  rw [e] at h
  obtain ⟨v,h1,h2⟩:=r.2 i d (join_some e)
  exact ⟨v,h1,h v H G ι (Ext.refl _ _) w h2⟩
theorem vv (i:Nat) {x:Str} (hN:X.N[i]? = some x:=by rfl) (hv:Vis X.env.scope x:=by first | exact Or.inl rfl | exact Or.inr (Or.inl rfl) | exact Or.inr (Or.inr rfl)) (hd:(x == ("__debug__" : Str))=false:=by decide)
  (hcd:(x == ("__classdict__" : Str))=false:=by decide):VE X W (.Name x pos) (vVar i):=⟨_,zhK hN hv hd hcd,zjH⟩
@[simp] def vFrz (i:Nat):Ev→Mo A:=fun ρ Ω=>match (ρ[i]?).join with
 | some (.cel k)=>match Ω[k]? with
  | some (.lst ds)=>some (.ok (.lst ds),Ω.set k .dead)
  | _=>none
 | _=>none
theorem zjW {K:PySem.W.Frag} {i:Nat}:Sim K (Den K) W (tVar i) (vFrz i):=by
 intro G ι Ω H σ ρ Q w r h
 unfold vFrz at h
 cases e:(ρ[i]?).join with
 | none=>rw [e] at h;exact False.elim h
 | some d =>
  rw [e] at h
  cases d with
  | cel k =>
   simp only at h
   cases e2:Ω[k]? with
   | none=>rw [e2] at h;exact False.elim h
   | some c =>
    rw [e2] at h
    cases c with
    | lst ds =>
     obtain ⟨v,h1,h2⟩:=r.2 i _ (join_some e)
     simp only [Den] at h2
     obtain ⟨p,rfl,h4⟩:=h2
     obtain ⟨g,xs,h5,h6⟩:=w.cel k _ p e2 h4
     refine ⟨_,h1,h _ H (upd G p (.lst xs)) ι (Ext.new g _) (w.freeze h4 g h5) ?_⟩
     simp only [Den]
     exact ⟨p,xs,rfl,zaq,h6.ext (Ext.new g _)⟩
    | _=>exact False.elim h
  | _=>exact False.elim h
theorem vf (i:Nat) {x:Str} (hN:X.N[i]? = some x:=by rfl) (hv:Vis X.env.scope x:=by first | exact Or.inl rfl | exact Or.inr (Or.inl rfl) | exact Or.inr (Or.inr rfl)) (hd:(x == ("__debug__" : Str))=false:=by decide)
  (hcd:(x == ("__classdict__" : Str))=false:=by decide):VE X W (.Name x pos) (vFrz i):=⟨_,zhK hN hv hd hcd,zjW⟩
theorem zkz {K:PySem.W.Frag} {v:V} {d:A} (h:∀ G ι,Den K G ι v d):Sim K (Den K) W (tC v) (fun _=>ret d):=fun G ι _ _ _ _ _ w _ q=>zbc w (h G ι) q
theorem zad {i:Int} {j}:VE X W (.Constant (.int i) j pos) (fun _=>ret (.int i)):=⟨_,zld,zkz fun _ _=>by simp only [Den]⟩
theorem zgh {i:Bool} {j}:VE X W (.Constant (.bool i) j pos) (fun _=>ret (.bl i)):=⟨_,zmG,zkz fun _ _=>by simp only [Den]⟩
theorem zh9 {x:Str} {n:String} (hg:Gl X x) (hm:X.mg x=none) (hv:bootBuiltins x=some (.type n)) (hn:x ≠ "__name__":=by decide) (hd:(x == ("__debug__" : Str))=false:=by decide):VE X W (.Name x pos) (fun _=>ret (.ty n)) :=
 ⟨_,zji (v := .ty n) hg hm hv rfl hn hd,zkz fun _ _=>by simp only [Den]⟩
theorem zag:VA X W [] (fun _=>ret []):=⟨_,ze7,fun _ _ _ _ _ _ _ w _ q=>zbc w .nil q⟩
@[simp] def zac (f:Ev→Mo A) (g:Ev→Mo (List A)):Ev→Mo (List A):=fun ρ=>mb (f ρ) fun x=>mb (g ρ) fun xs=>ret (x :: xs)
theorem zaa (h1:VE X W e fa) (h2:VA X W es fs) (hs:starEach (e :: es) X.env=(false,eval e X.env) :: starEach es X.env:=by rfl):VA X W (e :: es) (zac fa fs):=by
 obtain ⟨t,p1,s1⟩:=h1
 obtain ⟨u,p2,s2⟩:=h2
 refine ⟨_,zdy p1 p2 hs,fun G ι Ω H σ ρ Q w r h=>?_⟩
 refine s1 G ι Ω H σ ρ _ w r (Post.mb h fun x Ω1 v H1 G1 ι1 x1 w1 d1 h1=>?_)
 refine s2 G1 ι1 Ω1 H1 σ ρ _ w1 (r.ext x1) (Post.mb h1 fun xs Ω2 vs H2 G2 ι2 x2 w2 d2 h2=>?_)
 exact zbc w2 (.cons (d1.ext x2) d2) h2
@[simp] def vTup (g:Ev→Mo (List A)):Ev→Mo A:=fun ρ=>mb (g ρ) fun xs=>mb (chk (xs.length ≤ sizeLine)) fun _=>mkT xs
theorem zf0 {k} (h:VA X W es fs):VE X W (.Tuple es k pos) (vTup fs):=by
 obtain ⟨t,p,s⟩:=h
 refine ⟨_,zlF p,fun G ι Ω H σ ρ Q w r h=>?_⟩
 refine s G ι Ω H σ ρ _ w r (Post.mb h fun xs Ω1 vs H1 G1 ι1 x1 w1 d1 h1=>?_)
 obtain ⟨hl,h2⟩:=Post.chk h1
 exact ⟨by rw [d1.length];exact hl,fun p hp=>zhF w1 hp d1 h2⟩
@[simp] def vLst (c:Bool) (g:Ev→Mo (List A)):Ev→Mo A:=fun ρ=>mb (g ρ) fun xs=>mb (chk (xs.length ≤ sizeLine)) fun _=>mkL c xs
theorem zb7 (c:Bool) (h:VA X W es fs):VE X W (.List es pos) (vLst c fs):=by
 obtain ⟨t,p,s⟩:=h
 refine ⟨_,zjb p,fun G ι Ω H σ ρ Q w r h=>?_⟩
 refine s G ι Ω H σ ρ _ w r (Post.mb h fun xs Ω1 vs H1 G1 ι1 x1 w1 d1 h1=>?_)
 obtain ⟨hl,h2⟩:=Post.chk h1
 exact ⟨by rw [d1.length];exact hl,fun p hp=>zhA w1 hp d1 h2⟩
def OpV (K:PySem.W.Frag) (W:WX) (r:R2) (g:A→A→Mo A):Prop :=
 ∀ G ι Ω H σ x y a b Q,Wd K G ι Ω H→Den K G ι x a→Den K G ι y b→Post K (Den K) W G ι σ Q (g a b Ω)→r x y H Q
def OpOk (X:Cx) (W:WX) (f:Value→Value→Sem Value) (g:A→A→Mo A):Prop:=∃ r,OpR X f r∧OpV X.K W r g
@[simp] def vOp (g:A→A→Mo A) (f h:Ev→Mo A):Ev→Mo A:=fun ρ=>mb (f ρ) fun x=>mb (h ρ) fun y=>g x y
theorem zf9 {K:PySem.W.Frag} {r:R2} {g:A→A→Mo A} {ta tb:TE} (ho:OpV K W r g) (h1:Sim K (Den K) W ta fa) (h2:Sim K (Den K) W tb fb):Sim K (Den K) W (tOp r ta tb) (vOp g fa fb):=by
 intro G ι Ω H σ ρ Q w q h
 refine h1 G ι Ω H σ ρ _ w q (Post.mb h fun x Ω1 v H1 G1 ι1 x1 w1 d1 h1=>?_)
 refine h2 G1 ι1 Ω1 H1 σ ρ _ w1 (q.ext x1) (Post.mb h1 fun y Ω2 u H2 G2 ι2 x2 w2 d2 h2=>?_)
 exact ho G2 ι2 Ω2 H2 σ v u x y Q w2 (d1.ext x2) d2 h2
theorem zao {op:Operator} {g:A→A→Mo A} (ho:OpOk X W (binaryOp op) g) (ha:VE X W a fa) (hb:VE X W b fb):VE X W (.BinOp a op b pos) (vOp g fa fb):=by
 obtain ⟨r,o1,o2⟩:=ho
 obtain ⟨t,p1,s1⟩:=ha
 obtain ⟨u,p2,s2⟩:=hb
 exact ⟨_,zmp o1 p1 p2,zf9 o2 s1 s2⟩
@[simp] def gI (C:Int→Int→Prop) [∀ i j,Decidable (C i j)] (g:Int→Int→A):A→A→Mo A
 | .int i, .int j=>mb (chk (C i j)) fun _=>ret (g i j)
 | _,_=>stuck
theorem zik {K:PySem.W.Frag} {C:Int→Int→Prop} [∀ i j,Decidable (C i j)] {g:Int→Int→V} {g':Int→Int→A} (hg:∀ G ι i j,Den K G ι (g i j) (g' i j)):OpV K W (rI C g) (gI C g'):=by
 intro G ι Ω H σ x y a b Q w d1 d2 h
 cases a with
 | int i =>
  cases b with
  | int j =>
   simp only [Den] at d1 d2
   obtain ⟨hc,h2⟩:=Post.chk h
   exact ⟨i,j,d1,d2,hc,zbc w (hg _ _ _ _) h2⟩
  | _=>exact False.elim h
 | _=>exact False.elim h
@[simp] def gI0 (g:Int→Int→A):A→A→Mo A
 | .int i, .int j=>ret (g i j)
 | _,_=>stuck
theorem zgG {K:PySem.W.Frag} {g:Int→Int→V} {g':Int→Int→A} (hg:∀ G ι i j,Den K G ι (g i j) (g' i j)):OpV K W (rI0 g) (gI0 g'):=by
 intro G ι Ω H σ x y a b Q w d1 d2 h
 cases a with
 | int i =>
  cases b with
  | int j =>
   simp only [Den] at d1 d2
   exact ⟨i,j,d1,d2,zbc w (hg _ _ _ _) h⟩
  | _=>exact False.elim h
 | _=>exact False.elim h
instance:∀ i j,Decidable (CMul i j):=fun i j=>by unfold CMul;infer_instance
instance:∀ i j,Decidable (CDiv i j):=fun i j=>by unfold CDiv;infer_instance
instance:∀ i j,Decidable (CPow i j):=fun i j=>by unfold CPow;infer_instance
@[simp] def gSub:=gI0 fun i j => .int (i - j)
@[simp] def gMul:=gI CMul fun i j => .int (i * j)
@[simp] def gDiv:=gI CDiv fun i j => .int (i / j)
@[simp] def gMod:=gI (fun _ j=>0 < j) fun i j => .int (i % j)
@[simp] def gPow:=gI CPow fun i j => .int (i ^ j.toNat)
theorem zdS:OpOk X W (binaryOp .Sub) gSub:=⟨_,zlj,zgG fun _ _ _ _=>by simp only [Den]⟩
theorem zdR:OpOk X W (binaryOp .Mult) gMul:=⟨_,zle,zik fun _ _ _ _=>by simp only [Den]⟩
theorem ziG:OpOk X W (binaryOp .FloorDiv) gDiv:=⟨_,zj0,zik fun _ _ _ _=>by simp only [Den]⟩
theorem zca:OpOk X W (binaryOp .Mod) gMod:=⟨_,zl0,zik fun _ _ _ _=>by simp only [Den]⟩
theorem zgj:OpOk X W (binaryOp .Pow) gPow:=⟨_,zlE,zik fun _ _ _ _=>by simp only [Den]⟩
@[simp] def zgK:A→Bool
 | .scr _=>true
 | _=>false
theorem zi9 {a:A} (h:zgK a=false):∀ ns,a ≠ .scr ns:=fun ns e=>by subst e;cases h
@[simp] def gCat (c:Bool) (a b:A):Mo A:=fun Ω=>match zaj Ω a,zaj Ω b with
  | some xs,some ys=>if zgK a || zgK b || decide (sizeLine < xs.length + ys.length) then none else mkL c (xs ++ ys) Ω
  | _,_=>none
@[simp] def gAdd (c:Bool):A→A→Mo A
 | .int i, .int j=>ret (.int (i + j))
 | .tup xs, .tup ys=>mb (chk (0 < xs.length∧xs.length + ys.length ≤ sizeLine)) fun _=>mkT (xs ++ ys)
 | a,b=>gCat c a b
theorem zj6 {K:PySem.W.Frag} {c:Bool}:OpV K W rCat (gCat c):=by
 intro G ι Ω H σ x y a b Q w d1 d2 h
 unfold gCat at h
 match e1:zaj Ω a,e2:zaj Ω b with
 | none,_=>rw [e1] at h;exact False.elim h
 | some xs,none=>rw [e1,e2] at h;exact False.elim h
 | some xs,some ys =>
  rw [e1,e2] at h
  simp only at h
  by_cases hb:(zgK a || zgK b || decide (sizeLine < xs.length + ys.length))=true
  ·rw [if_pos hb] at h;exact False.elim h
  ·rw [if_neg hb] at h
   simp only [Bool.or_eq_true,decide_eq_true_eq,not_or,Bool.not_eq_true] at hb
   obtain ⟨p,us,rfl,h2,h3⟩:=zfN w d1 e1 (zi9 hb.1.1)
   obtain ⟨q,ws,rfl,h5,h6⟩:=zfN w d2 e2 (zi9 hb.1.2)
   exact ⟨p,q,us,ws,rfl,rfl,h2,h5,by rw [h3.length,h6.length];omega,fun r hr=>zhA w hr (h3.append h6) h⟩
theorem zbu (c:Bool):OpOk X W (binaryOp .Add) (gAdd c):=by
 refine ⟨_,zlx.or (zlM.or zjo),?_⟩
 intro G ι Ω H σ x y a b Q w d1 d2 h
 unfold gAdd at h
 split at h
 ·simp only [Den] at d1 d2
  exact .inl ⟨_,_,d1,d2,zbc w (by simp only [Den]) h⟩
 ·rename_i xs ys
  simp only [Den] at d1 d2
  obtain ⟨p,us,rfl,h2,h3⟩:=d1
  obtain ⟨q,ws,rfl,h5,h6⟩:=d2
  obtain ⟨⟨c1,c2⟩,h⟩:=Post.chk h
  refine .inr (.inr ⟨p,q,us,ws,rfl,rfl,SqT.of (w.sub _ _ h2),SqT.of (w.sub _ _ h5),?_,by rw [h3.length,h6.length];exact c2,fun e=>?_,fun _ r hr=>zhF w hr (h3.append h6) h⟩)
  ·intro e
   subst e
   have:=h3.length
   simp at this
   omega
  ·subst e
   refine zbc w ?_ h
   simp only [Den]
   exact ⟨p,us,rfl,h2,by simpa using h3.append h6⟩
 ·exact .inr (.inl (zj6 G ι Ω H σ x y _ _ Q w d1 d2 h))
end
end V2
namespace V2
open PySem PySem.Spec PyProof.Rows L2
def pur:Nat→A→Bool
 | _, .int _=>true
 | _, .bl _=>true
 | _, .non=>true
 | _, .str x=>PyData.canLay0 (.str x)
 | n + 1, .tup ds=>ds.all (pur n)
 | n + 1, .lst ds=>ds.all (pur n)
 | _,_=>false
def ze6 (f:A→A→Bool):List A→List A→Bool
 | [],[]=>true
 | x :: xs,y :: ys=>f x y && ze6 f xs ys
 | _,_=>false
def eqA:Nat→A→A→Bool
 | _, .int i, .int j=>i == j
 | _, .bl i, .bl j=>i == j
 | _, .bl i, .int j=>(if i then 1 else 0) == j
 | _, .int i, .bl j=>i == (if j then 1 else 0)
 | _, .non, .non=>true
 | _, .str x, .str y=>x == y
 | n + 1, .tup xs, .tup ys=>ze6 (eqA n) xs ys
 | n + 1, .lst xs, .lst ys=>ze6 (eqA n) xs ys
 | _,_,_=>false
def toPy:Nat→A→PyData
 | _, .int i => .int i
 | _, .bl i => .bool i
 | _, .str x => .str x
 | n + 1, .tup ds => .tuple (ds.map (toPy n))
 | n + 1, .lst ds => .list (ds.map (toPy n))
 | _,_ => .none
theorem zgF:∀ (ds:List A) (n:Nat),(∀ d ∈ ds,pur n d=true→PyData.canLay0 (toPy n d)=true)→ds.all (pur n)=true→PyData.canLayAll0 (ds.map (toPy n))=true
 | [],_,_,_=>rfl
 | d :: ds,n,ih,h=>by
  simp only [List.all_cons,Bool.and_eq_true] at h
  simp only [List.map_cons,PyData.canLayAll0,Bool.and_eq_true]
  exact ⟨ih d (List.mem_cons_self ..) h.1,zgF ds n (fun e he=>ih e (List.mem_cons_of_mem _ he)) h.2⟩
theorem zdf:∀ (n:Nat) (a:A),pur n a=true→PyData.canLay0 (toPy n a)=true:=by
 intro n
 induction n with
 | zero=>intro a h;cases a <;> first | rfl | exact h | cases h
 | succ n ih =>
  intro a h
  cases a with
  | tup ds=>exact zgF ds n (fun d _=>ih d) h
  | lst ds=>exact zgF ds n (fun d _=>ih d) h
  | str x=>exact h
  | int i=>rfl
  | bl b=>rfl
  | non=>rfl
  | _=>cases h
theorem zha:∀ (ds:List A) (n:Nat),(∀ d ∈ ds,(toPy n d).depth ≤ n)→PyData.depthAll (ds.map (toPy n)) ≤ n
 | [],_,_=>Nat.zero_le _
 | d :: ds,n,ih=>by
  simp only [List.map_cons,PyData.depthAll]
  exact Nat.max_le.mpr ⟨ih d (List.mem_cons_self ..),zha ds n fun e he=>ih e (List.mem_cons_of_mem _ he)⟩
theorem zd1:∀ (n:Nat) (a:A),(toPy n a).depth ≤ n:=by
 intro n
 induction n with
 | zero=>intro a;cases a <;> exact Nat.le_refl _
 | succ n ih =>
  intro a
  cases a with
  | tup ds=>exact Nat.succ_le_succ (zha ds n fun d _=>ih d)
  | lst ds=>exact Nat.succ_le_succ (zha ds n fun d _=>ih d)
  | _=>exact Nat.zero_le _
theorem ziW:∀ (xs ys:List A) (n:Nat),(∀ x ∈ xs,∀ y ∈ ys,PyData.eqv (toPy n x) (toPy n y)=eqA n x y)→PyData.eqvAll (xs.map (toPy n)) (ys.map (toPy n))=ze6 (eqA n) xs ys
 | [],[],_,_=>rfl
 | [],_ :: _,_,_=>rfl
 | _ :: _,[],_,_=>rfl
 | x :: xs,y :: ys,n,ih=>by
  simp only [List.map_cons,PyData.eqvAll,ze6]
  rw [ih x (List.mem_cons_self ..) y (List.mem_cons_self ..),ziW xs ys n fun a ha b hb=>ih a (List.mem_cons_of_mem _ ha) b (List.mem_cons_of_mem _ hb)]
theorem zfT:∀ (n:Nat) (a b:A),pur n a=true→pur n b=true→PyData.eqv (toPy n a) (toPy n b)=eqA n a b:=by
 intro n
 induction n with
 | zero=>intro a b ha hb;cases a <;> cases b <;> first | rfl | (simp [pur] at ha;done) | (simp [pur] at hb;done)
 | succ n ih =>
  intro a b ha hb
  have lst:∀ xs ys:List A,xs.all (pur n)=true→ys.all (pur n)=true→PyData.eqvAll (xs.map (toPy n)) (ys.map (toPy n))=ze6 (eqA n) xs ys:=fun xs ys h1 h2 =>
   ziW xs ys n fun x hx y hy=>ih x y (List.all_eq_true.mp h1 x hx) (List.all_eq_true.mp h2 y hy)
  cases a <;> cases b <;> first | rfl | (simp [pur] at ha;done) | (simp [pur] at hb;done) | exact lst _ _ ha hb
section
variable {X:Cx} {pins:List (Addr × Obj)} {σ:L2.St} {H:Hp} {s:Shared} {ι:List Addr}
theorem readsAll (n:Nat) (ih:∀ (v:V) (u:Value) (a:A),pur n a=true→Den X.K H ι v a→RelV v u→∃ as,Reads s.heap u (toPy n a) as) :
  ∀ (ds:List A) (xs:List V) (us:List Value),ds.all (pur n)=true→DenL X.K H ι xs ds→Vals xs us→∃ as,ReadsAll s.heap us (ds.map (toPy n)) as
 | [],xs,us,_,d,r=>by
  rw [zbl] at d;subst d;cases r;exact ⟨_, .nil⟩
 | a :: ds,xs,us,h,d,r=>by
  obtain ⟨x,t,rfl,d1,d2⟩:=d.zbK
  simp only [List.all_cons,Bool.and_eq_true] at h
  cases r with
  | cons r1 r2 =>
   obtain ⟨as,q1⟩:=ih _ _ _ h.1 d1 r1
   obtain ⟨bs,q2⟩:=readsAll n ih ds _ _ h.2 d2 r2
   exact ⟨_, .cons q1 q2⟩
theorem zdj (I:Inv X pins σ H s):∀ (n:Nat) (v:V) (u:Value) (a:A),pur n a=true→Den X.K H ι v a→RelV v u→∃ as,Reads s.heap u (toPy n a) as:=by
 intro n
 induction n with
 | zero =>
  intro v u a h d r
  cases a with
  | int i=>simp only [Den] at d;subst d;obtain ⟨t,rfl⟩:=r;exact ⟨_, .int i t⟩
  | bl b=>simp only [Den] at d;subst d;cases r;exact ⟨_, .bool b⟩
  | str x=>simp only [Den] at d;subst d;obtain ⟨t,rfl⟩:=r;exact ⟨_, .str x t⟩
  | non=>simp only [Den] at d;subst d;cases r;exact ⟨_, .none⟩
  | _=>cases h
 | succ n ih =>
  intro v u a h d r
  cases a with
  | int i=>simp only [Den] at d;subst d;obtain ⟨t,rfl⟩:=r;exact ⟨_, .int i t⟩
  | bl b=>simp only [Den] at d;subst d;cases r;exact ⟨_, .bool b⟩
  | str x=>simp only [Den] at d;subst d;obtain ⟨t,rfl⟩:=r;exact ⟨_, .str x t⟩
  | non=>simp only [Den] at d;subst d;cases r;exact ⟨_, .none⟩
  | tup ds =>
   simp only [Den] at d
   obtain ⟨p,xs,rfl,h2,h3⟩:=d
   cases r
   obtain ⟨its,rv,pl,hz⟩:=I.tuple (SqT.of h2)
   obtain ⟨as,q⟩:=readsAll n ih ds xs its h h3 rv
   obtain ⟨o,ho,hc,m,hd⟩:=(show s.heap.IsTuple p its.toArray from pl)
   exact ⟨_, .tuple ho hc hd (by simpa using q)⟩
  | lst ds =>
   simp only [Den] at d
   obtain ⟨p,xs,rfl,h2,h3⟩:=d
   cases r
   obtain ⟨its,rv,pl,hz⟩:=I.list (SqL.of h2)
   obtain ⟨as,q⟩:=readsAll n ih ds xs its h h3 rv
   obtain ⟨o,ho,hc,m,hd⟩:=pl.isList
   exact ⟨_, .list ho hc hd (by simpa using q)⟩
  | _=>cases h
end
def rEqA (K:PySem.W.Frag) (neg:Bool):R2:=fun x y H Q=>∃ ι a b,pur 8 a=true∧pur 8 b=true∧Den K H ι x a∧Den K H ι y b∧Q (.bl (if neg then !eqA 8 a b else eqA 8 a b)) H
theorem zkZ {X:Cx} (hu:X.A.units + 64 < cLine):OpR X (compareOp .Eq) (rEqA X.K false):=by
 intro pins s σ H x y v u Q I rx ry h
 obtain ⟨ι,a,b,h1,h2,d1,d2,q⟩:=h
 obtain ⟨as,q1⟩:=zdj I 8 x v a h1 d1 rx
 obtain ⟨bs,q2⟩:=zdj I 8 y u b h2 d2 ry
 have e1:=zd1 8 a
 refine SeqAt.compareEq_reads q1 q2 (zdf 8 a h1) (zdf 8 b h2) (by omega) ?_
 rw [zfT 8 a b h1 h2]
 exact ⟨.bl (eqA 8 a b),H,I,rfl,q⟩
theorem zk1 {X:Cx} (hu:X.A.units + 64 < cLine):OpR X (compareOp .NotEq) (rEqA X.K true):=by
 intro pins s σ H x y v u Q I rx ry h
 obtain ⟨ι,a,b,h1,h2,d1,d2,q⟩:=h
 obtain ⟨as,q1⟩:=zdj I 8 x v a h1 d1 rx
 obtain ⟨bs,q2⟩:=zdj I 8 y u b h2 d2 ry
 have e1:=zd1 8 a
 refine SeqAt.compareNe_reads q1 q2 (zdf 8 a h1) (zdf 8 b h2) (by omega) ?_
 rw [zfT 8 a b h1 h2]
 exact ⟨.bl (!eqA 8 a b),H,I,rfl,q⟩
def mapO (f:A→Option A):List A→Option (List A)
 | []=>some []
 | x :: xs=>match f x,mapO f xs with
  | some y,some ys=>some (y :: ys)
  | _,_=>none
def res (Ω:Sto):Nat→A→Option A
 | 0,a=>if pur 8 a=true then some a else none
 | n + 1,a=>if pur 8 a=true then some a else match a with
  | .tup ds=>(mapO (res Ω n) ds).map .tup
  | .lst ds=>(mapO (res Ω n) ds).map .lst
  | .cel k=>match Ω[k]? with
   | some (.lst ds)=>(mapO (res Ω n) ds).map .lst
   | _=>none
  | _=>none
section
variable {K:PySem.W.Frag} {G H:Hp} {ι:List Addr} {Ω:Sto}
theorem Wd.extH (w:Wd K G ι Ω H):Ext G ι H ι:=⟨w.sub,fun _ _ h=>h⟩
theorem zeg {f:A→Option A} (ih:∀ v a b,Den K G ι v a→f a=some b→Den K H ι v b):∀ (ds es:List A) (xs:List V),DenL K G ι xs ds→mapO f ds=some es→DenL K H ι xs es
 | [],es,xs,d,h=>by
  simp only [mapO,Option.some.injEq] at h;subst h
  rw [zbl] at d ⊢;exact d
 | a :: ds,es,xs,d,h=>by
  obtain ⟨x,t,rfl,d1,d2⟩:=d.zbK
  simp only [mapO] at h
  split at h
  ·rename_i y ys e1 e2
   cases h
   exact .cons (ih _ _ _ d1 e1) (zeg ih ds ys t d2 e2)
  ·cases h
theorem zi6 (w:Wd K G ι Ω H):∀ (n:Nat) (v:V) (a b:A),Den K G ι v a→res Ω n a=some b→Den K H ι v b:=by
 intro n
 induction n with
 | zero =>
  intro v a b d h
  simp only [res] at h
  split at h
  ·cases h;exact d.ext w.extH
  ·cases h
 | succ n ih =>
  intro v a b d h
  simp only [res] at h
  split at h
  ·cases h;exact d.ext w.extH
  ·split at h
   ·rename_i ds _
    simp only [Option.map_eq_some_iff] at h
    obtain ⟨es,h1,rfl⟩:=h
    simp only [Den] at d ⊢
    obtain ⟨p,xs,q1,q2,q3⟩:=d
    exact ⟨p,xs,q1,w.sub _ _ q2,zeg ih ds es xs q3 h1⟩
   ·rename_i ds _
    simp only [Option.map_eq_some_iff] at h
    obtain ⟨es,h1,rfl⟩:=h
    simp only [Den] at d ⊢
    obtain ⟨p,xs,q1,q2,q3⟩:=d
    exact ⟨p,xs,q1,w.sub _ _ q2,zeg ih ds es xs q3 h1⟩
   ·rename_i k _
    split at h
    ·rename_i ds e
     simp only [Option.map_eq_some_iff] at h
     obtain ⟨es,h1,rfl⟩:=h
     simp only [Den] at d ⊢
     obtain ⟨p,q1,q2⟩:=d
     obtain ⟨g,xs,q3,q4⟩:=w.cel k _ p e q2
     exact ⟨p,xs,q1,q3,zeg ih ds es xs q4 h1⟩
    ·cases h
   ·cases h
end
def gEqB (neg:Bool) (a b:A):Mo A:=fun Ω=>match res Ω 6 a,res Ω 6 b with
 | some x,some y=>if (pur 8 x && pur 8 y)=true then some (.ok (.bl (if neg then !eqA 8 x y else eqA 8 x y)),Ω) else none
 | _,_=>none
def gEq:=gEqB false
def gNe:=gEqB true
section
variable {X:Cx} {W:WX} {e a b c:Expr} {pos:Pos} {fa fb fc:Ev→Mo A} {ta tb:Ev→Mo Bool}
theorem zho {K:PySem.W.Frag} {neg:Bool}:OpV K W (rEqA K neg) (gEqB neg):=by
 intro G ι Ω H σ x y a b Q w d1 d2 h
 unfold gEqB at h
 split at h
 ·rename_i a' b' e1 e2
  split at h
  ·rename_i hp
   rw [Bool.and_eq_true] at hp
   exact ⟨ι,a',b',hp.1,hp.2,zi6 w 6 x a a' d1 e1,zi6 w 6 y b b' d2 e2,h _ H G ι (Ext.refl _ _) w (by simp only [Den])⟩
  ·exact False.elim h
 ·exact False.elim h
theorem o_eq (hu:X.A.units + 64 < cLine):OpOk X W (compareOp .Eq) gEq:=⟨_,zkZ hu,zho⟩
theorem o_ne (hu:X.A.units + 64 < cLine):OpOk X W (compareOp .NotEq) gNe:=⟨_,zk1 hu,zho⟩
@[simp] def gLt:=gI0 fun i j => .bl (decide (i < j))
@[simp] def gGt:=gI0 fun i j => .bl (decide (j < i))
theorem o_lt:OpOk X W (compareOp .Lt) gLt:=⟨_,zmg,zgG fun _ _ _ _=>by simp only [Den]⟩
theorem o_gt:OpOk X W (compareOp .Gt) gGt:=⟨_,zme,zgG fun _ _ _ _=>by simp only [Den]⟩
def zht:A→Option Bool
 | .non=>some true
 | _=>some false
@[simp] def zmk:A→Mo Bool
 | .bl b=>ret b
 | _=>stuck
@[simp] def zaW (f:Ev→Mo A):Ev→Mo Bool:=fun ρ=>mb (f ρ) zmk
theorem zfV {K:PySem.W.Frag} {t:TE} (h:Sim K (Den K) W t fa):Sim K relB W (zk4 t) (zaW fa):=by
 intro G ι Ω H σ ρ Q w r q
 refine h G ι Ω H σ ρ _ w r (Post.mb q fun x Ω1 v H1 G1 ι1 x1 w1 d1 h1=>?_)
 cases x with
 | bl b=>simp only [Den] at d1;exact ⟨b,d1,zbc w1 rfl h1⟩
 | _=>exact False.elim h1
theorem ziS {op:CmpOp} {g:A→A→Mo A} (ho:OpOk X W (compareOp op) g) (ha:VE X W a fa) (hb:VE X W b fb) (hm:behindInMarks op b=false):VE X W (.Compare a [op] [b] pos) (vOp g fa fb):=by
 obtain ⟨r,o1,o2⟩:=ho
 obtain ⟨t,p1,s1⟩:=ha
 obtain ⟨u,p2,s2⟩:=hb
 exact ⟨_,zkg o1 p1 p2 hm,zf9 o2 s1 s2⟩
theorem zbX {op:CmpOp} {g:A→A→Mo A} (ho:OpOk X W (compareOp op) g) (ha:VE X W a fa) (hb:VE X W b fb) (hm:behindInMarks op b=false):VT X W (.Compare a [op] [b] pos) (zaW (vOp g fa fb)):=by
 obtain ⟨r,o1,o2⟩:=ho
 obtain ⟨t,p1,s1⟩:=ha
 obtain ⟨u,p2,s2⟩:=hb
 exact ⟨_,zjy o1 p1 p2 hm,zfV (zf9 o2 s1 s2)⟩
theorem zdP (h:VE X W e fa) (he:∀ whole,isTrue e X.env whole=(do let v ← whole;standAt e.pos;holding [v] (truthy v)):=by intro _;rfl):VT X W e (zaW fa):=by
 obtain ⟨t,p,s⟩:=h
 exact ⟨_,zlX p he,zfV s⟩
@[simp] def zlf (f g:Ev→Mo Bool):Ev→Mo Bool:=fun ρ=>mb (f ρ) fun c=>if c then g ρ else ret false
@[simp] def vOrT (f g:Ev→Mo Bool):Ev→Mo Bool:=fun ρ=>mb (f ρ) fun c=>if c then ret true else g ρ
@[simp] def zeX (f:Ev→Mo Bool):Ev→Mo Bool:=fun ρ=>mb (f ρ) fun c=>ret (!c)
variable {rest:List Expr}
theorem zkk (h:VT X W a ta):VW X W (.BoolOp .And [a] pos) ta:=let ⟨t,p,s⟩:=h; ⟨t,pw_and1 p,s⟩
theorem zf3 (h:VT X W a ta):VW X W (.BoolOp .Or [a] pos) ta:=let ⟨t,p,s⟩:=h; ⟨t,pw_or1 p,s⟩
theorem zlo (h1:VT X W a ta) (h2:VW X W (.BoolOp .And (b :: rest) pos) tb):VW X W (.BoolOp .And (a :: b :: rest) pos) (zlf ta tb):=by
 obtain ⟨t,p1,s1⟩:=h1
 obtain ⟨u,p2,s2⟩:=h2
 refine ⟨_,pw_and p1 p2,fun G ι Ω H σ ρ Q w r h=>?_⟩
 refine s1 G ι Ω H σ ρ _ w r (Post.mb h fun c Ω1 c' H1 G1 ι1 x1 w1 d1 h1=>?_)
 cases (show c'=c from d1)
 cases c with
 | true=>exact s2 G1 ι1 Ω1 H1 σ ρ Q w1 (r.ext x1) h1
 | false=>exact zbc w1 rfl h1
theorem zid (h1:VT X W a ta) (h2:VW X W (.BoolOp .Or (b :: rest) pos) tb):VW X W (.BoolOp .Or (a :: b :: rest) pos) (vOrT ta tb):=by
 obtain ⟨t,p1,s1⟩:=h1
 obtain ⟨u,p2,s2⟩:=h2
 refine ⟨_,pw_or p1 p2,fun G ι Ω H σ ρ Q w r h=>?_⟩
 refine s1 G ι Ω H σ ρ _ w r (Post.mb h fun c Ω1 c' H1 G1 ι1 x1 w1 d1 h1=>?_)
 cases (show c'=c from d1)
 cases c with
 | false=>exact s2 G1 ι1 Ω1 H1 σ ρ Q w1 (r.ext x1) h1
 | true=>exact zbc w1 rfl h1
theorem VW.vt (h:VW X W e ta):VT X W e ta:=let ⟨t,p,s⟩:=h; ⟨t,p.pt,s⟩
theorem zd7 (h:VT X W a ta):VT X W (.UnaryOp .Not a pos) (zeX ta):=by
 obtain ⟨t,p,s⟩:=h
 refine ⟨_,zlv p,fun G ι Ω H σ ρ Q w r h=>?_⟩
 refine s G ι Ω H σ ρ _ w r (Post.mb h fun c Ω1 c' H1 G1 ι1 x1 w1 d1 h1=>?_)
 cases (show c'=c from d1)
 exact zbc w1 rfl h1
end
end V2
namespace V2
open PySem PySem.Spec PyProof.Rows L2
inductive Out where
 | nx | bk | ct | ret (a:A) | exc (x:Exc)
abbrev OS:=Option (Out × Ev × Sto)
abbrev MS:=Ev→Sto→OS
def OutS (K:PySem.W.Frag) (W:WX) (G:Hp) (ι:List Addr) (D:Ends) (σ:L2.St) (H:Hp):Out→Prop
 | .nx=>D.nx σ H
 | .bk=>D.bk σ H
 | .ct=>D.ct σ H
 | .ret a=>∀ v,Den K G ι v a→D.rt v H
 | .exc x=>∀ cls dx,ExcR K G ι H x cls dx→W σ cls dx H
def zaQ (K:PySem.W.Frag) (W:WX) (G:Hp) (ι:List Addr) (D:Ends):OS→Prop
 | some (o,ρ',Ω')=>∀ σ' H' G' ι',Ext G ι G' ι'→Wd K G' ι' Ω' H'→EnvR K G' ι' σ' ρ'→OutS K W G' ι' D σ' H' o
 | none=>False
@[simp] def sM {α:Type} (m:Mo α) (ρ:Ev) (k:α→Sto→OS):Sto→OS:=fun Ω=>match m Ω with
 | some (.ok a,Ω1)=>k a Ω1
 | some (.exc x,Ω1)=>some (.exc x,ρ,Ω1)
 | none=>none
section
variable {K:PySem.W.Frag} {W:WX} {G:Hp} {ι:List Addr} {Ω:Sto} {σ:L2.St} {ρ:Ev} {D:Ends}
theorem zaQ.ext {G1:Hp} {ι1:List Addr} {r:OS} (h:zaQ K W G ι D r) (e:Ext G ι G1 ι1):zaQ K W G1 ι1 D r:=by
 match r,h with
 | some (o,ρ',Ω'),h=>exact fun σ' H' G' ι' x w d=>h σ' H' G' ι' (e.trans x) w d
theorem zaQ.sM {α β:Type} {rel:Rl α β} {m:Mo α} {k:α→Sto→OS} {Q1:β→Hp→Prop} (h:zaQ K W G ι D (V2.sM m ρ k Ω)) (r:EnvR K G ι σ ρ)
  (hk:∀ a Ω1 v H1 G1 ι1,Ext G ι G1 ι1→Wd K G1 ι1 Ω1 H1→rel G1 ι1 v a→zaQ K W G1 ι1 D (k a Ω1)→Q1 v H1):Post K rel W G ι σ Q1 (m Ω):=by
 unfold V2.sM at h
 revert h
 generalize m Ω=q
 intro h
 match q,h with
 | some (.ok a,Ω1),h=>exact fun v H1 G1 ι1 x w d=>hk a Ω1 v H1 G1 ι1 x w d (zaQ.ext h x)
 | some (.exc x,Ω1),h=>exact fun cls dx H' G' ι' e w d=>h σ H' G' ι' e w (r.ext e) cls dx d
end
def SimS (K:PySem.W.Frag) (W:WX) (t:TS) (f:MS):Prop:=∀ G ι Ω H σ ρ D,Wd K G ι Ω H→EnvR K G ι σ ρ→zaQ K W G ι D (f ρ Ω)→t D σ H
def VS (X:Cx) (W:WX) (st:Stmt) (f:MS):Prop:=∃ t,PS X st t∧SimS X.K W t f
def VSs (X:Cx) (W:WX) (st:List Stmt) (f:MS):Prop:=∃ t,PSs X st t∧SimS X.K W t f
def SimG (K:PySem.W.Frag) (W:WX) (t:TG) (g:A→MS):Prop:=∀ G ι Ω H σ ρ v a D,Wd K G ι Ω H→EnvR K G ι σ ρ→Den K G ι v a→zaQ K W G ι D (g a ρ Ω)→t v σ H D.nx
def zmh (K:PySem.W.Frag) (W:WX) (t:TGs) (g:List A→MS):Prop:=∀ G ι Ω H σ ρ vs as D,Wd K G ι Ω H→EnvR K G ι σ ρ→DenL K G ι vs as→zaQ K W G ι D (g as ρ Ω)→t vs σ H D.nx
def VG (X:Cx) (W:WX) (tg:Expr) (g:A→MS):Prop:=∃ t,PG X tg t∧SimG X.K W t g
def VGs (X:Cx) (W:WX) (tgs:List Expr) (g:List A→MS):Prop:=∃ t,PGs X tgs t∧zmh X.K W t g
@[simp] def sNx:MS:=fun ρ Ω=>some (.nx,ρ,Ω)
@[simp] def sSeq (f g:MS):MS:=fun ρ Ω=>match f ρ Ω with
 | some (.nx,ρ1,Ω1)=>g ρ1 Ω1
 | r=>r
section
variable {X:Cx} {W:WX} {st:Stmt} {rest:List Stmt} {f g:MS} {e:Expr} {fe:Ev→Mo A} {pos:Pos}
theorem zed {K:PySem.W.Frag} {G H:Hp} {ι:List Addr} {Ω:Sto} {σ:L2.St} {ρ:Ev} {D:Ends} (w:Wd K G ι Ω H) (r:EnvR K G ι σ ρ) (h:zaQ K W G ι D (some (.nx,ρ,Ω))):D.nx σ H:=h σ H G ι (Ext.refl _ _) w r
theorem zbh:VSs X W [] sNx:=⟨_,zjN,fun _ _ _ _ _ _ _ w r h=>zed w r h⟩
theorem zjm {K:PySem.W.Frag} {t u:TS} (h1:SimS K W t f) (h2:SimS K W u g):SimS K W (tSeq t u) (sSeq f g):=by
 intro G ι Ω H σ ρ D w r h
 refine h1 G ι Ω H σ ρ _ w r ?_
 unfold sSeq at h
 revert h
 generalize f ρ Ω=q
 intro h
 match q,h with
 | some (.nx,ρ1,Ω1),h=>exact fun σ' H' G' ι' x w' r'=>h2 G' ι' Ω1 H' σ' ρ1 D w' r' (zaQ.ext h x)
 | some (.bk,ρ1,Ω1),h=>exact h
 | some (.ct,ρ1,Ω1),h=>exact h
 | some (.ret a,ρ1,Ω1),h=>exact h
 | some (.exc a,ρ1,Ω1),h=>exact h
theorem zaf (h1:VS X W st f) (h2:VSs X W rest g):VSs X W (st :: rest) (sSeq f g):=by
 obtain ⟨t,p1,s1⟩:=h1
 obtain ⟨u,p2,s2⟩:=h2
 exact ⟨_,zia p1 p2,zjm s1 s2⟩
theorem zap (h1:VS X W st f):VSs X W [st] f:=let ⟨t,p,s⟩:=h1; ⟨t,zjK p,s⟩
@[simp] def sExp (fe:Ev→Mo A):MS:=fun ρ=>sM (fe ρ) ρ fun _ Ω=>some (.nx,ρ,Ω)
theorem zb5 (h:VE X W e fe) (hs:swapsWith e none pos.line X.env=pure false:=by rfl):VS X W (.Expr e pos) (sExp fe):=by
 obtain ⟨t,p,s⟩:=h
 refine ⟨_,zj7 p hs,fun G ι Ω H σ ρ D w r h=>?_⟩
 exact s G ι Ω H σ ρ _ w r (zaQ.sM h r fun a Ω1 v H1 G1 ι1 x1 w1 d1 h1=>zed w1 (r.ext x1) h1)
@[simp] def sRet (fe:Ev→Mo A):MS:=fun ρ=>sM (fe ρ) ρ fun a Ω=>some (.ret a,ρ,Ω)
theorem za8 (h:VE X W e fe):VS X W (.Return (some e) pos) (sRet fe):=by
 obtain ⟨t,p,s⟩:=h
 refine ⟨_,zly p,fun G ι Ω H σ ρ D w r h=>?_⟩
 exact s G ι Ω H σ ρ _ w r (zaQ.sM h r fun a Ω1 v H1 G1 ι1 x1 w1 d1 h1=>h1 σ H1 G1 ι1 (Ext.refl _ _) w1 (r.ext x1) v d1)
@[simp] def sIf (c:Ev→Mo Bool) (f g:MS):MS:=fun ρ=>sM (c ρ) ρ fun b Ω=>if b then f ρ Ω else g ρ Ω
theorem zcY {c:Expr} {a b:List Stmt} {fc:Ev→Mo Bool} (hc:VT X W c fc) (h1:VSs X W a f) (h2:VSs X W b g):VS X W (.If c a b pos) (sIf fc f g):=by
 obtain ⟨t0,p0,s0⟩:=hc
 obtain ⟨t,p1,s1⟩:=h1
 obtain ⟨u,p2,s2⟩:=h2
 refine ⟨_,zl8 p0 p1 p2,fun G ι Ω H σ ρ D w r h=>?_⟩
 refine s0 G ι Ω H σ ρ _ w r (zaQ.sM h r fun c Ω1 c' H1 G1 ι1 x1 w1 d1 h1=>?_)
 cases (show c'=c from d1)
 cases c with
 | true=>exact s1 G1 ι1 Ω1 H1 σ ρ D w1 (r.ext x1) h1
 | false=>exact s2 G1 ι1 Ω1 H1 σ ρ D w1 (r.ext x1) h1
@[simp] def gN (i:Nat):A→MS:=fun a ρ Ω=>some (.nx,ρ.set i (some a),Ω)
theorem zb1 {i:Nat} {x:Str} (hN:X.N.Nodup) (hi:X.N[i]? = some x) (hx:Loc X.env.scope x) (hf:X.fn x=true∨X.env.scope.names.lookup x=some .local:=by first | exact .inl rfl | exact .inr rfl | assumption):VG X W (.Name x pos) (gN i) :=
 ⟨_,zjv hN hi hx hf,fun _ _ _ _ _ _ _ _ _ w r d h=>zed w (r.set i d) h⟩
@[simp] def zjS:List A→MS:=fun as ρ Ω=>match as with
 | []=>some (.nx,ρ,Ω)
 | _=>none
@[simp] def zd6 (g:A→MS) (gs:List A→MS):List A→MS:=fun as=>match as with
 | a :: r=>sSeq (g a) (gs r)
 | []=>fun _ _=>none
theorem zkA:VGs X W [] zjS:=⟨_,zj2,fun G ι Ω H σ ρ vs as D w r d h=>by
 cases as with
 | nil=>rw [zbl] at d;exact ⟨d,zed w r h⟩
 | cons=>exact False.elim h⟩
theorem zfJ {es:List Expr} {g:A→MS} {gs:List A→MS} (h1:VG X W e g) (h2:VGs X W es gs)
  (hs:(assignEach (e :: es) X.env).map (·.2)=assign e X.env :: (assignEach es X.env).map (·.2):=by rfl):VGs X W (e :: es) (zd6 g gs):=by
 obtain ⟨t,p1,s1⟩:=h1
 obtain ⟨u,p2,s2⟩:=h2
 refine ⟨_,ziQ p1 p2 hs,fun G ι Ω H σ ρ vs as D w r d h=>?_⟩
 cases as with
 | nil=>exact False.elim h
 | cons a as =>
  obtain ⟨x,xs,rfl,d1,d2⟩:=d.zbK
  refine ⟨x,xs,rfl,s1 G ι Ω H σ ρ x a { D with nx:=fun σ' H'=>u xs σ' H' D.nx } w r d1 ?_⟩
  simp only [zd6,sSeq] at h
  revert h
  generalize g a ρ Ω=q
  intro h
  match q,h with
  | some (.nx,ρ1,Ω1),h=>exact fun σ' H' G' ι' x w' r'=>s2 G' ι' Ω1 H' σ' ρ1 xs as D w' r' (d2.ext x) (zaQ.ext h x)
  | some (.bk,ρ1,Ω1),h=>exact h
  | some (.ct,ρ1,Ω1),h=>exact h
  | some (.ret a,ρ1,Ω1),h=>exact h
  | some (.exc a,ρ1,Ω1),h=>exact h
@[simp] def zhS (n:Nat) (gs:List A→MS):A→MS:=fun a ρ Ω=>match a with
 | .tup ds=>if ds.length=n then gs ds ρ Ω else none
 | _=>none
theorem zla {es:List Expr} {k:Nat} {n:Nat} {gs:List A→MS} (hc:X.calm=true) (h:VGs X W es gs)
  (hn:(assignEach es X.env).length=n:=by rfl) (hst:(assignEach es X.env).findIdx? (·.1)=none:=by rfl):VG X W (.Tuple es k pos) (zhS n gs):=by
 obtain ⟨t,p,s⟩:=h
 refine ⟨_,zkV hc p hn hst,fun G ι Ω H σ ρ v a D w r d h=>?_⟩
 unfold zhS at h
 cases a with
 | tup ds =>
  simp only at h
  by_cases hl:ds.length=n
  ·rw [if_pos hl] at h
   simp only [Den] at d
   obtain ⟨p,xs,rfl,h2,h3⟩:=d
   exact ⟨p,xs,rfl,SqT.of (w.sub _ _ h2),by rw [h3.length];exact hl,s G ι Ω H σ ρ xs ds D w r h3 h⟩
  ·rw [if_neg hl] at h;exact False.elim h
 | _=>exact False.elim h
@[simp] def setCell (o i v:A) (Ω:Sto):Option Sto:=match o,i with
 | .cel k, .int n=>match Ω[k]? with
  | some (.lst ds)=>match ixN ds.length n with
   | some j=>some (Ω.set k (.lst (ds.set j v)))
   | none=>none
  | _=>none
 | _,_=>none
@[simp] def zhq (fo fi:Ev→Mo A):A→MS:=fun a ρ=>sM (fo ρ) ρ fun o=>sM (fi ρ) ρ fun i Ω=>match setCell o i a Ω with
 | some Ω'=>some (.nx,ρ,Ω')
 | none=>none
theorem ziR {o i:Expr} {fo fi:Ev→Mo A} (ho:VE X W o fo) (hi:VE X W i fi)
  (ha:∀ v,assign (.Subscript o i pos) X.env v=(do
   let ov ← holding [v] (eval o X.env)
   let iv ← holding [v,ov] (eval i X.env)
   standAt pos
   holding [v,ov,iv] (setItem ov iv v)
   release [v,ov,iv] []):=by intro _;rfl):VG X W (.Subscript o i pos) (zhq fo fi):=by
 obtain ⟨t,p1,s1⟩:=ho
 obtain ⟨u,p2,s2⟩:=hi
 refine ⟨_,zlR p1 p2 set_list ha,fun G ι Ω H σ ρ v a D w r d h=>?_⟩
 refine s1 G ι Ω H σ ρ _ w r (zaQ.sM h r fun x Ω1 v1 H1 G1 ι1 x1 w1 d1 h1=>?_)
 refine s2 G1 ι1 Ω1 H1 σ ρ _ w1 (r.ext x1) (zaQ.sM h1 (r.ext x1) fun y Ω2 v2 H2 G2 ι2 x2 w2 d2 h2=>?_)
 unfold setCell at h2
 cases x with
 | cel k =>
  cases y with
  | int n =>
   simp only at h2
   cases e:Ω2[k]? with
   | none=>rw [e] at h2;exact False.elim h2
   | some c =>
    rw [e] at h2
    cases c with
    | lst ds =>
     simp only at h2
     cases e2:ixN ds.length n with
     | none=>rw [e2] at h2;exact False.elim h2
     | some j =>
      rw [e2] at h2
      have d1':=d1.ext x2
      simp only [Den] at d1' d2
      obtain ⟨p,rfl,hk⟩:=d1'
      obtain ⟨gg,xs,h5,h6⟩:=w2.cel k _ p e hk
      refine ⟨p,xs,n,j,rfl,d2,h5,by rw [h6.length];exact e2,?_⟩
      refine zed (w2.put (c := .lst (ds.set j a)) hk gg ⟨gg,_,zaq,?_⟩) (r.ext (x1.trans x2)) h2
      exact DenL.set (d.ext (x1.trans x2)) j h6
    | _=>exact False.elim h2
  | _=>exact False.elim h2
 | _=>exact False.elim h2
@[simp] def sAsg (fe:Ev→Mo A) (g:A→MS):MS:=fun ρ=>sM (fe ρ) ρ fun a Ω=>g a ρ Ω
theorem zg1 {K:PySem.W.Frag} {te:TE} {t:TG} {g:A→MS} (h1:Sim K (Den K) W te fe) (h2:SimG K W t g):SimS K W (tAsg te t) (sAsg fe g):=by
 intro G ι Ω H σ ρ D w r h
 exact h1 G ι Ω H σ ρ _ w r (zaQ.sM h r fun a Ω1 v H1 G1 ι1 x1 w1 d1 h1=>h2 G1 ι1 Ω1 H1 σ ρ v a D w1 (r.ext x1) d1 h1)
theorem zi3 {tg:Expr} {g:A→MS} (he:VE X W e fe) (hg:VG X W tg g) (hs:swapsWithSole [tg] e pos.line X.env=pure false:=by rfl) (hw:swappedStores [tg] e X.env=pure none:=by rfl)
  (h1:(assignEach [tg] X.env).map (·.2)=[assign tg X.env]:=by rfl):VS X W (.Assign [tg] e pos) (sAsg fe g):=by
 obtain ⟨t,p1,s1⟩:=he
 obtain ⟨u,p2,s2⟩:=hg
 exact ⟨_,zlV p1 p2 hs hw h1,zg1 s1 s2⟩
theorem zaM {i:Nat} {x:Str} {pos':Pos} (hN:X.N.Nodup) (hi:X.N[i]? = some x) (hx:Loc X.env.scope x) (he:VE X W e fe) (hs:swapsWith e (some (.Name x pos')) pos.line X.env=pure false:=by rfl) (hf:X.fn x=true∨X.env.scope.names.lookup x=some .local:=by first | exact .inl rfl | exact .inr rfl | assumption) :
  VS X W (.Assign [.Name x pos'] e pos) (sAsg fe (gN i)):=by
 obtain ⟨t,p1,s1⟩:=he
 exact ⟨_,zlU hN hi hx p1 hs hf,zg1 s1 fun _ _ _ _ _ _ _ _ _ w r d h=>zed w (r.set i d) h⟩
structure Src where
 ds:List A
 ok:Sto→Prop
structure ItV (K:PySem.W.Frag) (G:Hp) (ι:List Addr) (J:It) (S:Src):Prop where
 go:∀ G' ι' Ω' H',Ext G ι G' ι'→Wd K G' ι' Ω' H'→S.ok Ω'→∀ i,i < S.ds.length→J.go i H'
 stop:∀ G' ι' Ω' H',Ext G ι G' ι'→Wd K G' ι' Ω' H'→S.ok Ω'→∀ i,S.ds.length ≤ i→J.stop i H'
 yld:∀ G' ι' Ω' H',Ext G ι G' ι'→Wd K G' ι' Ω' H'→S.ok Ω'→∀ i x H2 d,S.ds[i]? = some d→J.yld i H' x H2→∃ G2,Ext G' ι' G2 ι'∧Wd K G2 ι' Ω' H2∧Den K G2 ι' x d
def relI (K:PySem.W.Frag):Rl Src It:=fun G ι J S=>ItV K G ι J S
theorem ItV.ext {K:PySem.W.Frag} {G G1:Hp} {ι ι1:List Addr} {J:It} {S:Src} (h:ItV K G ι J S) (e:Ext G ι G1 ι1):ItV K G1 ι1 J S :=
 ⟨fun G' ι' Ω' H' x=>h.go G' ι' Ω' H' (e.trans x),fun G' ι' Ω' H' x=>h.stop G' ι' Ω' H' (e.trans x),fun G' ι' Ω' H' x=>h.yld G' ι' Ω' H' (e.trans x)⟩
def VI (X:Cx) (W:WX) (tg iter:Expr) (f:Ev→Mo Src):Prop:=∃ t,PI X tg iter t∧Sim X.K (relI X.K) W t f
open Classical in
noncomputable def fFor (ok:Sto→Prop) (g:A→MS) (b:MS):List A→MS
 | [],ρ,Ω=>if ok Ω then some (.nx,ρ,Ω) else none
 | x :: xs,ρ,Ω=>if ok Ω then (match g x ρ Ω with
  | some (.nx,ρ0,Ω0)=>(match b ρ0 Ω0 with
   | some (.nx,ρ1,Ω1)=>fFor ok g b xs ρ1 Ω1
   | some (.ct,ρ1,Ω1)=>fFor ok g b xs ρ1 Ω1
   | some (.bk,ρ1,Ω1)=>some (.nx,ρ1,Ω1)
   | r=>r)
  | some (.exc e,ρ0,Ω0)=>some (.exc e,ρ0,Ω0)
  | _=>none) else none
@[simp] noncomputable def sFor (fi:Ev→Mo Src) (g:A→MS) (b:MS):MS:=fun ρ=>sM (fi ρ) ρ fun S Ω=>fFor S.ok g b S.ds ρ Ω
theorem zjF {K:PySem.W.Frag} {G:Hp} {ι:List Addr} {D:Ends} {ok:Sto→Prop} {g:A→MS} {b:MS} {xs:List A} {ρ:Ev} {Ω:Sto} (h:zaQ K W G ι D (fFor ok g b xs ρ Ω)):ok Ω:=by
 cases xs with
 | nil =>
  unfold fFor at h
  by_cases hp:ok Ω
  ·exact hp
  ·rw [if_neg hp] at h;exact False.elim h
 | cons =>
  unfold fFor at h
  by_cases hp:ok Ω
  ·exact hp
  ·rw [if_neg hp] at h;exact False.elim h
theorem zkt {K:PySem.W.Frag} {wi:TI} {tg:TG} {tb:TS} {fi:Ev→Mo Src} {g:A→MS} {b:MS} (hi:Sim K (relI K) W wi fi) (hg:SimG K W tg g) (hb:SimS K W tb b):SimS K W (tFor wi tg tb) (sFor fi g b):=by
 intro G ι Ω H σ ρ D w r h
 refine hi G ι Ω H σ ρ _ w r (zaQ.sM h r fun S Ω1 J H1 G1 ι1 x1 w1 j1 h1=>?_)
 refine ⟨fun i m σ' H'=>m=S.ds.length - i∧i ≤ S.ds.length∧∃ G' ι' Ω' ρ',Ext G1 ι1 G' ι'∧Wd K G' ι' Ω' H'∧EnvR K G' ι' σ' ρ'∧zaQ K W G' ι' D (fFor S.ok g b (S.ds.drop i) ρ' Ω'),
  ⟨_,rfl,Nat.zero_le _,G1,ι1,Ω1,ρ,Ext.refl _ _,w1,r.ext x1,by simpa using h1⟩,?_⟩
 rintro i m σ' H' ⟨rfl,hil,G',ι',Ω',ρ',e',w',r',h'⟩
 have hok:=zjF h'
 by_cases hlt:i < S.ds.length
 ·right
  refine ⟨j1.go G' ι' Ω' H' e' w' hok i hlt,fun σ2 H2=>∃ G2 ι2 Ω2 ρ2,Ext G1 ι1 G2 ι2∧Wd K G2 ι2 Ω2 H2∧EnvR K G2 ι2 σ2 ρ2∧zaQ K W G2 ι2 D (fFor S.ok g b (S.ds.drop (i + 1)) ρ2 Ω2),fun σ2 H2 n=>?_,fun x H2 y=>?_⟩
  ·exact ⟨S.ds.length - (i + 1),by omega,rfl,hlt,n⟩
  ·obtain ⟨G2,e2,w2,d2⟩:=j1.yld G' ι' Ω' H' e' w' hok i x H2 S.ds[i] (List.getElem?_eq_getElem hlt) y
   rw [List.drop_eq_getElem_cons hlt] at h'
   unfold fFor at h'
   rw [if_pos hok] at h'
   refine hg G2 ι' Ω' H2 σ' ρ' x S.ds[i] { D with nx:=fun σ3 H3=>tb _ σ3 H3 } w2 (r'.ext e2) d2 ?_
   revert h'
   generalize g S.ds[i] ρ' Ω'=q
   intro h'
   match q,h' with
   | some (.nx,ρ3,Ω3),h' =>
    intro σ3 H3 G3 ι3 x3 w3 r3
    refine hb G3 ι3 Ω3 H3 σ3 ρ3 _ w3 r3 ?_
    simp only at h'
    revert h'
    generalize b ρ3 Ω3=q2
    intro h'
    match q2,h' with
    | some (.nx,ρ4,Ω4),h'=>exact fun σ4 H4 G4 ι4 x4 w4 r4=>⟨G4,ι4,Ω4,ρ4,(e'.trans (e2.trans x3)).trans x4,w4,r4,zaQ.ext h' ((e2.trans x3).trans x4)⟩
    | some (.ct,ρ4,Ω4),h'=>exact fun σ4 H4 G4 ι4 x4 w4 r4=>⟨G4,ι4,Ω4,ρ4,(e'.trans (e2.trans x3)).trans x4,w4,r4,zaQ.ext h' ((e2.trans x3).trans x4)⟩
    | some (.bk,ρ4,Ω4),h'=>exact fun σ4 H4 G4 ι4 x4 w4 r4=>h' σ4 H4 G4 ι4 ((e2.trans x3).trans x4) w4 r4
    | some (.ret a,ρ4,Ω4),h'=>exact fun σ4 H4 G4 ι4 x4 w4 r4=>h' σ4 H4 G4 ι4 ((e2.trans x3).trans x4) w4 r4
    | some (.exc a,ρ4,Ω4),h'=>exact fun σ4 H4 G4 ι4 x4 w4 r4=>h' σ4 H4 G4 ι4 ((e2.trans x3).trans x4) w4 r4
   | some (.exc a,ρ3,Ω3),h'=>exact fun σ4 H4 G4 ι4 x4 w4 r4=>h' σ4 H4 G4 ι4 (e2.trans x4) w4 r4
 ·have hie:i=S.ds.length:=by omega
  subst hie
  left
  rw [List.drop_length] at h'
  unfold fFor at h'
  rw [if_pos hok] at h'
  exact ⟨j1.stop G' ι' Ω' H' e' w' hok _ (Nat.le_refl _),zed w' r' h'⟩
theorem zdx {tg iter:Expr} {body:List Stmt} {fi:Ev→Mo Src} {g:A→MS} {b:MS} (hp:PassesOwn (model X.prog X.w) X.A X.env X.xe) (hc:X.calm=true) (hi:VI X W tg iter fi) (hg:VG X W tg g) (hb:VSs X W body b)
  (hs:∀ x,foldedSetIterable iter X.env x=pure x:=by intro _;rfl):VS X W (.For tg iter body [] pos) (sFor fi g b):=by
 obtain ⟨t1,p1,s1⟩:=hi
 obtain ⟨t2,p2,s2⟩:=hg
 obtain ⟨t3,p3,s3⟩:=hb
 exact ⟨_,zkW hp hc p1 p2 p3 hs,zkt s1 s2 s3⟩
def zbM (c:Ev→Mo Bool) (b:MS):Nat→MS
 | 0,_,_=>none
 | n + 1,ρ,Ω=>sM (c ρ) ρ (fun k Ω1=>if k then (match b ρ Ω1 with
   | some (.nx,ρ1,Ω2)=>zbM c b n ρ1 Ω2
   | some (.ct,ρ1,Ω2)=>zbM c b n ρ1 Ω2
   | some (.bk,ρ1,Ω2)=>some (.nx,ρ1,Ω2)
   | r=>r) else some (.nx,ρ,Ω1)) Ω
theorem zhe {K:PySem.W.Frag} {tc:TT} {tb:TS} {c:Ev→Mo Bool} {b:MS} (n:Ev→Sto→Nat) (hc:Sim K relB W tc c) (hb:SimS K W tb b):SimS K W (zi7 tc tb) (fun ρ Ω=>zbM c b (n ρ Ω) ρ Ω):=by
 intro G ι Ω H σ ρ D w r h
 refine ⟨fun m σ' H'=>∃ G' ι' Ω' ρ',Ext G ι G' ι'∧Wd K G' ι' Ω' H'∧EnvR K G' ι' σ' ρ'∧zaQ K W G' ι' D (zbM c b m ρ' Ω'),⟨_,G,ι,Ω,ρ,Ext.refl _ _,w,r,h⟩,?_⟩
 rintro m σ' H' ⟨G',ι',Ω',ρ',e',w',r',h'⟩
 cases m with
 | zero=>exact False.elim h'
 | succ m =>
  unfold zbM at h'
  refine hc G' ι' Ω' H' σ' ρ' _ w' r' (zaQ.sM h' r' fun k Ω1 k' H1 G1 ι1 x1 w1 d1 h1=>?_)
  cases (show k'=k from d1)
  cases k with
  | false=>exact zed w1 (r'.ext x1) h1
  | true =>
   refine ⟨fun σ2 H2=>∃ G2 ι2 Ω2 ρ2,Ext G ι G2 ι2∧Wd K G2 ι2 Ω2 H2∧EnvR K G2 ι2 σ2 ρ2∧zaQ K W G2 ι2 D (zbM c b m ρ2 Ω2),fun σ2 H2 q=>⟨m,Nat.lt_succ_self _,q⟩,?_⟩
   refine hb G1 ι1 Ω1 H1 σ' ρ' _ w1 (r'.ext x1) ?_
   simp only [if_true] at h1
   revert h1
   generalize b ρ' Ω1=q
   intro h1
   match q,h1 with
   | some (.nx,ρ4,Ω4),h1=>exact fun σ4 H4 G4 ι4 x4 w4 r4=>⟨G4,ι4,Ω4,ρ4,(e'.trans x1).trans x4,w4,r4,zaQ.ext h1 x4⟩
   | some (.ct,ρ4,Ω4),h1=>exact fun σ4 H4 G4 ι4 x4 w4 r4=>⟨G4,ι4,Ω4,ρ4,(e'.trans x1).trans x4,w4,r4,zaQ.ext h1 x4⟩
   | some (.bk,ρ4,Ω4),h1=>exact fun σ4 H4 G4 ι4 x4 w4 r4=>h1 σ4 H4 G4 ι4 x4 w4 r4
   | some (.ret a,ρ4,Ω4),h1=>exact fun σ4 H4 G4 ι4 x4 w4 r4=>h1 σ4 H4 G4 ι4 x4 w4 r4
   | some (.exc a,ρ4,Ω4),h1=>exact fun σ4 H4 G4 ι4 x4 w4 r4=>h1 σ4 H4 G4 ι4 x4 w4 r4
theorem zii {ce:Expr} {body:List Stmt} {c:Ev→Mo Bool} {b:MS} (n:Ev→Sto→Nat) (hp:PassesOwn (model X.prog X.w) X.A X.env X.xe) (hc:VT X W ce c) (hb:VSs X W body b):VS X W (.While ce body [] pos) (fun ρ Ω=>zbM c b (n ρ Ω) ρ Ω):=by
 obtain ⟨t1,p1,s1⟩:=hc
 obtain ⟨t2,p2,s2⟩:=hb
 exact ⟨_,zit hp p1 p2,zhe n s1 s2⟩
@[simp] def srcOf (a:A) (ds:List A):Src:=⟨ds,fun Ω=>za9 Ω a=some ds⟩
theorem zfa {Ω:Sto} {a:A} {ds:List A} (h:za9 Ω a=some ds) (ha:∀ es,a ≠ .tup es):zaj Ω a=some ds:=by
 cases a with
 | tup es=>exact absurd rfl (ha es)
 | _=>exact h
theorem zlQ {tg l:Expr} {tl:TE} (hl:PE X l tl):PI X tg l (fun σ H R=>tl σ H fun x H1=>∃ a,x = .ref a∧(((∃ xs,SqL X.K H1 a xs)∧R (Itl X.K a) H1)∨((∃ xs,SqT X.K H1 a xs)∧R (Itt X.K a) H1))):=by
 intro pins s σ H R I h
 refine thn (hl pins s σ H _ I h) fun v s1 ⟨x,H1,I1,r1,q1⟩=>?_
 obtain ⟨a,e,q⟩:=q1
 subst e
 cases r1
 rcases q with ⟨⟨xs,hq⟩,q⟩ | ⟨⟨xs,hq⟩,q⟩
 ·obtain ⟨its,rv,p,hz⟩:=I1.list hq
  refine wpAny_pyIter_list p.isList ?_
  refine ⟨s1.heap.objs.size,[s1.heap.objs.size],_,_,H1,rfl,I1.kept (t':=s1.toks) fun b o e=>Heap.get?_push_of_some _ e,zhs a _,⟨_,Heap.get?_push_size _ rfl,rfl,rfl⟩,fun b hb=>?_,q⟩
  have e:b=s1.heap.objs.size:=by simpa using hb
  subst e
  exact I1.fpOk (Nat.le_refl _) (I1.hok.fresh (Nat.le_refl _))
 ·obtain ⟨its,rv,p,hz⟩:=I1.tuple hq
  refine wpAny_pyIter_tuple (show s1.heap.IsTuple a its.toArray from p) ?_
  refine ⟨s1.heap.objs.size,[s1.heap.objs.size],_,_,H1,rfl,I1.kept (t':=s1.toks) fun b o e=>Heap.get?_push_of_some _ e,zge a _,⟨_,Heap.get?_push_size _ rfl,rfl,rfl⟩,fun b hb=>?_,q⟩
  have e:b=s1.heap.objs.size:=by simpa using hb
  subst e
  exact I1.fpOk (Nat.le_refl _) (I1.hok.fresh (Nat.le_refl _))
@[simp] def vSeq (f:Ev→Mo A):Ev→Mo Src:=fun ρ=>mb (f ρ) fun a Ω=>match za9 Ω a with
 | some ds=>some (.ok (srcOf a ds),Ω)
 | none=>none
theorem zky {K:PySem.W.Frag} {G:Hp} {ι:List Addr} {p:Addr} {a:A} {ds:List A} (d:Den K G ι (.ref p) a) (ha:∀ es,a ≠ .tup es):ItV K G ι (Itl K p) (srcOf a ds):=by
 have key:∀ G' ι' Ω' H',Ext G ι G' ι'→Wd K G' ι' Ω' H'→za9 Ω' a=some ds→∃ xs,SqL K H' p xs∧DenL K G' ι' xs ds:=fun G' ι' Ω' H' e w h=>by
  obtain ⟨q,xs,h1,h2,h3⟩:=zaD w (d.ext e) (zfa h ha)
  cases h1
  exact ⟨xs,h2,h3⟩
 refine ⟨fun G' ι' Ω' H' e w h i hi=>?_,fun G' ι' Ω' H' e w h i hi=>?_,fun G' ι' Ω' H' e w h i x H2 y hy hd=>?_⟩
 ·obtain ⟨xs,h2,h3⟩:=key G' ι' Ω' H' e w h
  have hl:i < xs.length:=by rw [h3.length];exact hi
  exact ⟨xs,xs[i],h2,List.getElem?_eq_getElem hl⟩
 ·obtain ⟨xs,h2,h3⟩:=key G' ι' Ω' H' e w h
  exact ⟨xs,h2,by rw [h3.length];exact hi⟩
 ·obtain ⟨xs,h2,h3⟩:=key G' ι' Ω' H' e w h
  obtain ⟨e1,e2⟩:=hd
  subst e1
  obtain ⟨z,q1,q2⟩:=h3.get hy
  rw [e2 xs h2] at q1
  cases q1
  exact ⟨G',Ext.refl _ _,w,q2⟩
theorem zjn {K:PySem.W.Frag} {G:Hp} {ι:List Addr} {p:Addr} {ds es:List A} (d:Den K G ι (.ref p) (.tup es)):ItV K G ι (Itt K p) (srcOf (.tup es) ds):=by
 have key:∀ G' ι' Ω' H',Ext G ι G' ι'→Wd K G' ι' Ω' H'→za9 Ω' (.tup es)=some ds→∃ xs,SqT K H' p xs∧DenL K G' ι' xs ds:=fun G' ι' Ω' H' e w h=>by
  simp only [za9,Option.some.injEq] at h
  subst h
  have d':=d.ext e
  simp only [Den] at d'
  obtain ⟨q,xs,h1,h2,h3⟩:=d'
  cases h1
  exact ⟨xs,SqT.of (w.sub _ _ h2),h3⟩
 refine ⟨fun G' ι' Ω' H' e w h i hi=>?_,fun G' ι' Ω' H' e w h i hi=>?_,fun G' ι' Ω' H' e w h i x H2 y hy hd=>?_⟩
 ·obtain ⟨xs,h2,h3⟩:=key G' ι' Ω' H' e w h
  have hl:i < xs.length:=by rw [h3.length];exact hi
  exact ⟨xs,xs[i],h2,List.getElem?_eq_getElem hl⟩
 ·obtain ⟨xs,h2,h3⟩:=key G' ι' Ω' H' e w h
  exact ⟨xs,h2,by rw [h3.length];exact hi⟩
 ·obtain ⟨xs,h2,h3⟩:=key G' ι' Ω' H' e w h
  obtain ⟨e1,e2⟩:=hd
  subst e1
  obtain ⟨z,q1,q2⟩:=h3.get hy
  rw [e2 xs h2] at q1
  cases q1
  exact ⟨G',Ext.refl _ _,w,q2⟩
theorem zlm {tg l:Expr} {fe:Ev→Mo A} (h:VE X W l fe):VI X W tg l (vSeq fe):=by
 obtain ⟨t,p,s⟩:=h
 refine ⟨_,zlQ p,fun G ι Ω H σ ρ R w r h=>?_⟩
 refine s G ι Ω H σ ρ _ w r (Post.mb h fun a Ω1 v H1 G1 ι1 x1 w1 d1 h1=>?_)
 cases e:za9 Ω1 a with
 | none=>simp only [e] at h1;exact False.elim h1
 | some ds =>
  simp only [e] at h1
  obtain ⟨q,xs,h2,h3,h4⟩:=zdp w1 d1 e
  subst h2
  refine ⟨q,rfl,?_⟩
  cases a with
  | tup es =>
   right
   simp only [Den] at d1
   obtain ⟨q',xs',e1,e2,e3⟩:=id d1
   cases e1
   exact ⟨⟨_,SqT.of (w1.sub _ _ e2)⟩,h1 _ H1 G1 ι1 (Ext.refl _ _) w1 (zjn (by simpa only [Den] using d1))⟩
  | _ =>
   left
   obtain ⟨q',xs',e1,e2,e3⟩:=zaD w1 d1 (zfa e (by intro _ z;cases z))
   cases e1
   exact ⟨⟨_,e2⟩,h1 _ H1 G1 ι1 (Ext.refl _ _) w1 (zky d1 (by intro _ z;cases z))⟩
@[simp] def zb9 (lo:Int) (n:Nat):Src:=⟨(List.range n).map fun (i:Nat)=>A.int (lo + (i:Int)),fun _=>True⟩
def zbH (i:Int):Prop:=-(2 ^ 62) ≤ i∧i < 2 ^ 62
instance (i:Int):Decidable (zbH i):=by unfold zbH;infer_instance
theorem zkm {K:PySem.W.Frag} {G:Hp} {ι:List Addr} {lo:Int} {n:Nat}:ItV K G ι (Itr lo n) (zb9 lo n):=by
 refine ⟨fun _ _ _ _ _ _ _ i hi=>show i < n by simpa [zb9] using hi,fun _ _ _ _ _ _ _ i hi=>show n ≤ i by simpa [zb9] using hi,fun G' ι' Ω' H' e w h i x H2 y hy hd=>?_⟩
 obtain ⟨e1,e2⟩:=hd
 subst e1 e2
 refine ⟨G',Ext.refl _ _,w,?_⟩
 simp only [zb9,List.getElem?_map] at hy
 cases e:(List.range n)[i]? with
 | none=>rw [e] at hy;cases hy
 | some j =>
  rw [e] at hy
  cases hy
  have:=(List.getElem?_eq_some_iff.mp e).2
  simp at this
  subst this
  simp only [Den]
@[simp] def ze3 (f:Ev→Mo (List A)):Ev→Mo Src:=fun ρ=>mb (f ρ) fun as=>match as with
 | [.int j]=>mb (chk (zbH j)) fun _=>ret (zb9 0 j.toNat)
 | _=>stuck
theorem zcm {tg a:Expr} {fs:Ev→Mo (List A)} {p:Pos} (hg:Gl X "range") (hm:X.mg "range" = none) (ha:VA X W [a] fs) (hs:starEach [a] X.env=[(false,eval a X.env)]:=by rfl):VI X W tg (.Call (.Name "range" p) [a] [] pos) (ze3 fs):=by
 obtain ⟨t,p,s⟩:=ha
 refine ⟨_,zhC hg hm p hs,fun G ι Ω H σ ρ R w r h=>?_⟩
 refine s G ι Ω H σ ρ _ w r (Post.mb h fun as Ω1 vs H1 G1 ι1 x1 w1 d1 h1=>?_)
 split at h1
 ·rename_i j
  obtain ⟨v,t,rfl,q1,q2⟩:=d1.zbK
  rw [zbl] at q2;subst q2
  simp only [Den] at q1;subst q1
  obtain ⟨hc,h2⟩:=Post.chk h1
  exact ⟨j,rfl,hc.1,hc.2,zbc w1 zkm h2⟩
 ·exact False.elim h1
end
end V2
namespace V2
open PySem PySem.Spec PyProof.Rows L2
section
variable {X:Cx} {W:WX} {e a b:Expr} {es:List Expr} {pos:Pos} {fa fb:Ev→Mo A} {fs:Ev→Mo (List A)}
@[simp] def gIx (a i:A):Mo A:=fun Ω=>match za9 Ω a,i with
 | some ds, .int n=>match atI ds n with
  | some d=>some (.ok d,Ω)
  | none=>none
 | _,_=>none
theorem zjw {K:PySem.W.Frag} {G:Hp} {ι:List Addr} {xs:List V} {ds:List A} {n:Int} {d:A} (h:DenL K G ι xs ds) (e:atI ds n=some d):∃ x,atI xs n=some x∧Den K G ι x d:=by
 unfold atI at e ⊢
 rw [h.length]
 cases q:ixN ds.length n with
 | none=>rw [q] at e;cases e
 | some j=>rw [q] at e;exact h.get e
theorem zba (ha:VE X W a fa) (hb:VE X W b fb) (hs:zgV b):VE X W (.Subscript a b pos) (vOp gIx fa fb):=by
 obtain ⟨t,p1,s1⟩:=ha
 obtain ⟨u,p2,s2⟩:=hb
 refine ⟨_,zmK zkX p1 p2 hs,zf9 ?_ s1 s2⟩
 intro G ι Ω H σ x y a i Q w d1 d2 h
 unfold gIx at h
 split at h
 ·rename_i ds n e1
  split at h
  ·rename_i d e
   simp only [Den] at d2
   have fin:∀ v,Den X.K G ι v d→Q v H:=fun v hv=>h v H G ι (Ext.refl _ _) w hv
   obtain ⟨p,xs,rfl,hq,hd⟩:=zdp w d1 e1
   obtain ⟨v,q1,q2⟩:=zjw hd e
   rcases hq with hq | hq
   ·exact .inl ⟨p,xs,n,v,rfl,d2,hq,q1,fin v q2⟩
   ·exact .inr (.inl ⟨p,xs,n,v,rfl,d2,hq,q1,fin v q2⟩)
  ·exact False.elim h
 ·exact False.elim h
def VO (X:Cx) (W:WX) (e:Option Expr) (f:Ev→Mo (Option Int)):Prop:=∃ t,PO X e t∧Sim X.K (fun _ _ o o'=>o=o') W t f
theorem zfg:VO X W none (fun _=>ret none):=⟨_,zkj,fun _ _ _ _ _ _ _ w _ q=>zbc w rfl q⟩
@[simp] def zfe (f:Ev→Mo A):Ev→Mo (Option Int):=fun ρ=>mb (f ρ) fun x=>match x with
 | .int i=>ret (some i)
 | _=>stuck
theorem zdw (h:VE X W e fa):VO X W (some e) (zfe fa):=by
 obtain ⟨t,p,s⟩:=h
 refine ⟨_,zjk p,fun G ι Ω H σ ρ Q w r h=>?_⟩
 refine s G ι Ω H σ ρ _ w r (Post.mb h fun x Ω1 v H1 G1 ι1 x1 w1 d1 h1=>?_)
 cases x with
 | int i=>simp only [Den] at d1;exact ⟨i,d1,zbc w1 rfl h1⟩
 | _=>exact False.elim h1
def cutA (ds:List A) (lo hi:Option Int):List A:=(ds.drop (HT.sIx ds.length 0 lo)).take (HT.sIx ds.length ds.length hi - HT.sIx ds.length 0 lo)
theorem zgy {K:PySem.W.Frag} {G:Hp} {ι:List Addr} {xs:List V} {ds:List A} (h:DenL K G ι xs ds) (lo hi:Option Int):DenL K G ι (cutV xs lo hi) (cutA ds lo hi):=by
 unfold cutV cutA
 rw [h.length]
 exact (h.drop _).take _
@[simp] def gSl (c:Bool) (a:A) (lo hi:Option Int):Mo A:=fun Ω=>match a with
 | .tup ds=>if HT.sIx ds.length 0 lo=0∧HT.sIx ds.length ds.length hi=ds.length then none else some (.ok (.tup (cutA ds lo hi)),Ω)
 | a=>match zaj Ω a with
  | some ds=>mkL c (cutA ds lo hi) Ω
  | none=>none
@[simp] def vSl (c:Bool) (f:Ev→Mo A) (l h:Ev→Mo (Option Int)):Ev→Mo A:=fun ρ=>mb (f ρ) fun a=>mb (l ρ) fun lo=>mb (h ρ) fun hi=>gSl c a lo hi
theorem zdi (c:Bool) {lo hi:Option Expr} {fl fh:Ev→Mo (Option Int)} {p2:Pos} (he:VE X W e fa) (hl:VO X W lo fl) (hh:VO X W hi fh):VE X W (.Subscript e (.Slice lo hi none p2) pos) (vSl c fa fl fh):=by
 obtain ⟨t,p1,s1⟩:=he
 obtain ⟨u,p2,s2⟩:=hl
 obtain ⟨u',p3,s3⟩:=hh
 refine ⟨_,zib (zjA.or zlt) p1 p2 p3,fun G ι Ω H σ ρ Q w r h=>?_⟩
 refine s1 G ι Ω H σ ρ _ w r (Post.mb h fun x Ω1 v H1 G1 ι1 x1 w1 d1 h1=>?_)
 refine s2 G1 ι1 Ω1 H1 σ ρ _ w1 (r.ext x1) (Post.mb h1 fun o Ω2 o' H2 G2 ι2 x2 w2 d2 h2=>?_)
 cases (show o'=o from d2)
 refine s3 G2 ι2 Ω2 H2 σ ρ _ w2 ((r.ext x1).ext x2) (Post.mb h2 fun k Ω3 k' H3 G3 ι3 x3 w3 d3 h3=>?_)
 cases (show k'=k from d3)
 have d:=d1.ext (x2.trans x3)
 unfold gSl at h3
 cases x with
 | tup ds =>
  simp only at h3
  split at h3
  ·exact False.elim h3
  ·rename_i hn
   simp only [Den] at d
   obtain ⟨p,xs,rfl,q2,q3⟩:=d
   exact .inr ⟨p,xs,rfl,SqT.of (w3.sub _ _ q2),by rw [q3.length];exact hn,fun l hl=>zhF w3 hl (zgy q3 o k) h3⟩
 | _ =>
  simp only at h3
  split at h3
  ·rename_i ds e
   obtain ⟨p,xs,rfl,q2,q3⟩:=zaD w3 d e
   exact .inl ⟨p,xs,rfl,q2,fun l hl=>zhA w3 hl (zgy q3 o k) h3⟩
  ·exact False.elim h3
def zlW (K:PySem.W.Frag) (W:WX) (r:List V→Hp→VK→Prop) (g:List A→Mo A):Prop :=
 ∀ G ι Ω H σ xs as Q,Wd K G ι Ω H→DenL K G ι xs as→Post K (Den K) W G ι σ Q (g as Ω)→r xs H Q
def zcA (X:Cx) (W:WX) (f:Value) (g:List A→Mo A):Prop:=∃ r,zcI X f r∧zlW X.K W r g
@[simp] def vCl (g:List A→Mo A) (f:Ev→Mo (List A)):Ev→Mo A:=fun ρ=>mb (f ρ) g
theorem ziV {K:PySem.W.Frag} {r:List V→Hp→VK→Prop} {g:List A→Mo A} {t:TA} (hg:zlW K W r g) (h:Sim K (DenL K) W t fs):Sim K (Den K) W (tCB r t) (vCl g fs):=by
 intro G ι Ω H σ ρ Q w q h2
 exact h G ι Ω H σ ρ _ w q (Post.mb h2 fun as Ω1 vs H1 G1 ι1 x1 w1 d1 h1=>hg G1 ι1 Ω1 H1 σ vs as Q w1 d1 h1)
theorem zat {id:String} {x:Str} {g:List A→Mo A} {p:Pos} (hc:zcA X W (.builtin id) g) (hg:Gl X x) (hm:X.mg x=none) (hv:bootBuiltins x=some (.builtin id)) (ha:VA X W (e :: es) fs) (hn:x ≠ "__name__":=by decide) (hdb:(x == ("__debug__" : Str))=false:=by decide)
  (he:starEach (e :: es) X.env=(false,eval e X.env) :: starEach es X.env:=by rfl) (hpl:(backTo pos (starEach es X.env)).any (·.1)=false:=by rfl):VE X W (.Call (.Name x p) (e :: es) [] pos) (vCl g fs):=by
 obtain ⟨r,c1,c2⟩:=hc
 obtain ⟨t,p1,s1⟩:=ha
 exact ⟨_,zhY c1 hg hm hv p1 hn hdb he hpl,ziV c2 s1⟩
theorem zhj {T:String} {x:Str} {g:List A→Mo A} {p:Pos} (hc:zcA X W (.type T) g) (hg:Gl X x) (hm:X.mg x=none) (hv:bootBuiltins x=some (.type T)) (ha:VA X W (e :: es) fs) (hn:x ≠ "__name__":=by decide) (hdb:(x == ("__debug__" : Str))=false:=by decide)
  (he:starEach (e :: es) X.env=(false,eval e X.env) :: starEach es X.env:=by rfl) (hpl:(backTo pos (starEach es X.env)).any (·.1)=false:=by rfl):VE X W (.Call (.Name x p) (e :: es) [] pos) (vCl g fs):=by
 obtain ⟨r,c1,c2⟩:=hc
 obtain ⟨t,p1,s1⟩:=ha
 exact ⟨_,zhk c1 hg hm hv p1 hn hdb he hpl,ziV c2 s1⟩
theorem den1 {K:PySem.W.Frag} {G:Hp} {ι:List Addr} {xs:List V} {d:A} (h:DenL K G ι xs [d]):∃ x,xs=[x]∧Den K G ι x d:=by
 obtain ⟨x,r,rfl,h1,h2⟩:=h.zbK
 rw [zbl] at h2;subst h2
 exact ⟨x,rfl,h1⟩
theorem den2 {K:PySem.W.Frag} {G:Hp} {ι:List Addr} {xs:List V} {d d':A} (h:DenL K G ι xs [d,d']):∃ x y,xs=[x,y]∧Den K G ι x d∧Den K G ι y d':=by
 obtain ⟨x,r,rfl,h1,h2⟩:=h.zbK
 obtain ⟨y,rfl,h3⟩:=den1 h2
 exact ⟨x,y,rfl,h1,h3⟩
@[simp] def gLen (as:List A):Mo A:=fun Ω=>match as with
 | [a]=>(match za9 Ω a with
  | some ds=>some (.ok (.int ds.length),Ω)
  | none=>none)
 | _=>none
theorem zdJ:zcA X W (.builtin "len") gLen:=by
 refine ⟨_,ze0,?_⟩
 intro G ι Ω H σ xs as Q w d h
 unfold gLen at h
 split at h
 ·rename_i a
  split at h
  ·rename_i ds e
   obtain ⟨x,rfl,d1⟩:=den1 d
   obtain ⟨p,ys,rfl,h2,h3⟩:=zdp w d1 e
   exact ⟨p,ys,rfl,h2,h _ H G ι (Ext.refl _ _) w (by simp only [Den,h3.length])⟩
  ·exact False.elim h
 ·exact False.elim h
@[simp] def zeM (as:List A):Mo A:=match as with
 | [.int i, .int j]=>ret (.int (max i j))
 | _=>stuck
@[simp] def ziN (as:List A):Mo A:=match as with
 | [.int i, .int j]=>ret (.int (min i j))
 | _=>stuck
theorem ze9 (hc:X.calm=true):zcA X W (.builtin "max") zeM:=by
 refine ⟨_,zgS hc,?_⟩
 intro G ι Ω H σ xs as Q w d h
 unfold zeM at h
 split at h
 ·rename_i i j
  obtain ⟨x,y,rfl,d1,d2⟩:=den2 d
  simp only [Den] at d1 d2;subst d1 d2
  refine ⟨i,j,rfl,?_⟩
  have e:(if j > i then j else i)=max i j:=by split <;> omega
  rw [e]
  exact zbc w (by simp only [Den]) h
 ·exact False.elim h
theorem ziX (hc:X.calm=true):zcA X W (.builtin "min") ziN:=by
 refine ⟨_,zgM hc,?_⟩
 intro G ι Ω H σ xs as Q w d h
 unfold ziN at h
 split at h
 ·rename_i i j
  obtain ⟨x,y,rfl,d1,d2⟩:=den2 d
  simp only [Den] at d1 d2;subst d1 d2
  refine ⟨i,j,rfl,?_⟩
  have e:(if j < i then j else i)=min i j:=by split <;> omega
  rw [e]
  exact zbc w (by simp only [Den]) h
 ·exact False.elim h
def intsOf:List A→Option (List Int)
 | []=>some []
 | .int i :: r=>(intsOf r).map (i :: ·)
 | _=>none
theorem zcb {K:PySem.W.Frag} {G:Hp} {ι:List Addr}:∀ {ds:List A} {xs:List V} {ns:List Int},intsOf ds=some ns→DenL K G ι xs ds→xs=ns.map V.int
 | [],xs,ns,h,d=>by
  simp only [intsOf,Option.some.injEq] at h;subst h
  rw [zbl] at d;subst d;rfl
 | a :: ds,xs,ns,h,d=>by
  obtain ⟨x,t,rfl,d1,d2⟩:=d.zbK
  cases a with
  | int i =>
   simp only [intsOf,Option.map_eq_some_iff] at h
   obtain ⟨ms,h1,rfl⟩:=h
   simp only [Den] at d1;subst d1
   rw [zcb h1 d2];rfl
  | _=>simp [intsOf] at h
theorem zcV (ns:List Int):intsOf (ns.map A.int)=some ns:=by
 induction ns with
 | nil=>rfl
 | cons n ns ih=>simp [intsOf,ih]
@[simp] def gSum (as:List A):Mo A:=fun Ω=>match as with
 | [a]=>(match (zaj Ω a).bind intsOf with
  | some ns=>some (.ok (.int ns.sum),Ω)
  | none=>none)
 | _=>none
theorem zl4 (hc:X.calm=true):zcA X W (.builtin "sum") gSum:=by
 refine ⟨_,ziE hc,?_⟩
 intro G ι Ω H σ xs as Q w d h
 unfold gSum at h
 split at h
 ·rename_i a
  split at h
  ·rename_i ns e
   obtain ⟨x,rfl,d1⟩:=den1 d
   rw [Option.bind_eq_some_iff] at e
   obtain ⟨ds,e1,e2⟩:=e
   obtain ⟨p,ys,rfl,h2,h3⟩:=zaD w d1 e1
   rw [zcb e2 h3] at h2
   exact ⟨p,ns,rfl,h2,h _ H G ι (Ext.refl _ _) w (by simp only [Den])⟩
  ·exact False.elim h
 ·exact False.elim h
def tyA (Ω:Sto):A→Option String
 | .int _=>some "int"
 | .bl _=>some "bool"
 | .str _=>some "str"
 | .non=>some "NoneType"
 | .tup _=>some "tuple"
 | .lst _=>some "list"
 | .cel k=>match Ω[k]? with
  | some (.lst _)=>some "list"
  | some (.dct _)=>some "dict"
  | _=>none
 | _=>none
theorem zk9 {K:PySem.W.Frag} {G H:Hp} {ι:List Addr} {Ω:Sto} {v:V} {a:A} {t:String} (w:Wd K G ι Ω H) (d:Den K G ι v a) (h:tyA Ω a=some t):TyOf K H v (.type t):=by
 cases a with
 | int i=>simp only [tyA,Option.some.injEq] at h;subst h;simp only [Den] at d;subst d;exact .int i
 | bl i=>simp only [tyA,Option.some.injEq] at h;subst h;simp only [Den] at d;subst d;exact .bl i
 | str i=>simp only [tyA,Option.some.injEq] at h;subst h;simp only [Den] at d;subst d;exact .str i
 | non=>simp only [tyA,Option.some.injEq] at h;subst h;simp only [Den] at d;subst d;exact .non
 | tup ds=>simp only [tyA,Option.some.injEq] at h;subst h;simp only [Den] at d;obtain ⟨p,xs,rfl,h2,_⟩:=d;exact .tup (w.sub _ _ h2)
 | lst ds=>simp only [tyA,Option.some.injEq] at h;subst h;simp only [Den] at d;obtain ⟨p,xs,rfl,h2,_⟩:=d;exact .lst (w.sub _ _ h2)
 | cel k =>
  simp only [Den] at d
  obtain ⟨p,rfl,hk⟩:=d
  simp only [tyA] at h
  split at h
  ·rename_i ds e
   cases h
   obtain ⟨g,xs,h3,_⟩:=w.cel k _ p e hk
   exact .lst h3
  ·rename_i ds e
   cases h
   obtain ⟨g,xs,h3,_⟩:=w.cel k _ p e hk
   exact .dK h3
  ·cases h
 | _=>simp [tyA] at h
theorem zc5 (K:PySem.W.Frag):PySem.W.kitOne K (.type "int") (.type "int")=some true:=by unfold PySem.W.kitOne;rw [if_pos (beq_self_eq_true _)]
theorem zcL (K:PySem.W.Frag):PySem.W.kitOne K (.type "bool") (.type "int")=some true:=by kernel_rfl
theorem zc1 (K:PySem.W.Frag):PySem.W.kitOne K (.type "str") (.type "int")=some false:=by kernel_rfl
theorem zbF (K:PySem.W.Frag):PySem.W.kitOne K (.type "NoneType") (.type "int")=some false:=by kernel_rfl
theorem zcs (K:PySem.W.Frag):PySem.W.kitOne K (.type "tuple") (.type "int")=some false:=by kernel_rfl
theorem zcB (K:PySem.W.Frag):PySem.W.kitOne K (.type "list") (.type "int")=some false:=by kernel_rfl
theorem zcO (K:PySem.W.Frag):PySem.W.kitOne K (.type "int") (.type "bool")=some false:=by kernel_rfl
theorem zco (K:PySem.W.Frag):PySem.W.kitOne K (.type "bool") (.type "bool")=some true:=by unfold PySem.W.kitOne;rw [if_pos (beq_self_eq_true _)]
theorem zcC (K:PySem.W.Frag):PySem.W.kitOne K (.type "str") (.type "bool")=some false:=by kernel_rfl
theorem zbs (K:PySem.W.Frag):PySem.W.kitOne K (.type "NoneType") (.type "bool")=some false:=by kernel_rfl
theorem zbZ (K:PySem.W.Frag):PySem.W.kitOne K (.type "tuple") (.type "bool")=some false:=by kernel_rfl
theorem zcj (K:PySem.W.Frag):PySem.W.kitOne K (.type "list") (.type "bool")=some false:=by kernel_rfl
theorem zcl (K:PySem.W.Frag):PySem.W.kitOne K (.type "int") (.type "tuple")=some false:=by kernel_rfl
theorem zb0 (K:PySem.W.Frag):PySem.W.kitOne K (.type "bool") (.type "tuple")=some false:=by kernel_rfl
theorem zcq (K:PySem.W.Frag):PySem.W.kitOne K (.type "str") (.type "tuple")=some false:=by kernel_rfl
theorem zbi (K:PySem.W.Frag):PySem.W.kitOne K (.type "NoneType") (.type "tuple")=some false:=by kernel_rfl
theorem zbP (K:PySem.W.Frag):PySem.W.kitOne K (.type "tuple") (.type "tuple")=some true:=by unfold PySem.W.kitOne;rw [if_pos (beq_self_eq_true _)]
theorem zb4 (K:PySem.W.Frag):PySem.W.kitOne K (.type "list") (.type "tuple")=some false:=by kernel_rfl
theorem zcF (K:PySem.W.Frag):PySem.W.kitOne K (.type "int") (.type "list")=some false:=by kernel_rfl
theorem zcc (K:PySem.W.Frag):PySem.W.kitOne K (.type "bool") (.type "list")=some false:=by kernel_rfl
theorem zcG (K:PySem.W.Frag):PySem.W.kitOne K (.type "str") (.type "list")=some false:=by kernel_rfl
theorem zbr (K:PySem.W.Frag):PySem.W.kitOne K (.type "NoneType") (.type "list")=some false:=by kernel_rfl
theorem zb2 (K:PySem.W.Frag):PySem.W.kitOne K (.type "tuple") (.type "list")=some false:=by kernel_rfl
theorem zce (K:PySem.W.Frag):PySem.W.kitOne K (.type "list") (.type "list")=some true:=by unfold PySem.W.kitOne;rw [if_pos (beq_self_eq_true _)]
theorem zc4 (K:PySem.W.Frag):PySem.W.kitOne K (.type "int") (.type "str")=some false:=by kernel_rfl
theorem zcD (K:PySem.W.Frag):PySem.W.kitOne K (.type "bool") (.type "str")=some false:=by kernel_rfl
theorem zcU (K:PySem.W.Frag):PySem.W.kitOne K (.type "str") (.type "str")=some true:=by unfold PySem.W.kitOne;rw [if_pos (beq_self_eq_true _)]
theorem zbA (K:PySem.W.Frag):PySem.W.kitOne K (.type "NoneType") (.type "str")=some false:=by kernel_rfl
theorem zci (K:PySem.W.Frag):PySem.W.kitOne K (.type "tuple") (.type "str")=some false:=by kernel_rfl
theorem zcE (K:PySem.W.Frag):PySem.W.kitOne K (.type "list") (.type "str")=some false:=by kernel_rfl
inductive TyP:String→String→Bool→Prop where
 | zc5:TyP "int" "int" true
 | zcL:TyP "bool" "int" true
 | zc1:TyP "str" "int" false
 | zbF:TyP "NoneType" "int" false
 | zcs:TyP "tuple" "int" false
 | zcB:TyP "list" "int" false
 | zcO:TyP "int" "bool" false
 | zco:TyP "bool" "bool" true
 | zcC:TyP "str" "bool" false
 | zbs:TyP "NoneType" "bool" false
 | zbZ:TyP "tuple" "bool" false
 | zcj:TyP "list" "bool" false
 | zcl:TyP "int" "tuple" false
 | zb0:TyP "bool" "tuple" false
 | zcq:TyP "str" "tuple" false
 | zbi:TyP "NoneType" "tuple" false
 | zbP:TyP "tuple" "tuple" true
 | zb4:TyP "list" "tuple" false
 | zcF:TyP "int" "list" false
 | zcc:TyP "bool" "list" false
 | zcG:TyP "str" "list" false
 | zbr:TyP "NoneType" "list" false
 | zb2:TyP "tuple" "list" false
 | zce:TyP "list" "list" true
 | zc4:TyP "int" "str" false
 | zcD:TyP "bool" "str" false
 | zcU:TyP "str" "str" true
 | zbA:TyP "NoneType" "str" false
 | zci:TyP "tuple" "str" false
 | zcE:TyP "list" "str" false
theorem TyP.ok (K:PySem.W.Frag) {t n:String} {b:Bool} (h:TyP t n b):PySem.W.kitOne K (.type t) (.type n)=some b:=by
 cases h
 ·exact V2.zc5 K
 ·exact V2.zcL K
 ·exact V2.zc1 K
 ·exact V2.zbF K
 ·exact V2.zcs K
 ·exact V2.zcB K
 ·exact V2.zcO K
 ·exact V2.zco K
 ·exact V2.zcC K
 ·exact V2.zbs K
 ·exact V2.zbZ K
 ·exact V2.zcj K
 ·exact V2.zcl K
 ·exact V2.zb0 K
 ·exact V2.zcq K
 ·exact V2.zbi K
 ·exact V2.zbP K
 ·exact V2.zb4 K
 ·exact V2.zcF K
 ·exact V2.zcc K
 ·exact V2.zcG K
 ·exact V2.zbr K
 ·exact V2.zb2 K
 ·exact V2.zce K
 ·exact V2.zc4 K
 ·exact V2.zcD K
 ·exact V2.zcU K
 ·exact V2.zbA K
 ·exact V2.zci K
 ·exact V2.zcE K
def isTy (t n:String):Option Bool:=if t = "int"∧n = "int" then some true else if t = "bool"∧n = "int" then some true else if t = "str"∧n = "int" then some false else if t = "NoneType"∧n = "int" then some false else if t = "tuple"∧n = "int" then some false else if t = "list"∧n = "int" then some false else if t = "int"∧n = "bool" then some false else if t = "bool"∧n = "bool" then some true else if t = "str"∧n = "bool" then some false else if t = "NoneType"∧n = "bool" then some false else if t = "tuple"∧n = "bool" then some false else if t = "list"∧n = "bool" then some false else if t = "int"∧n = "tuple" then some false else if t = "bool"∧n = "tuple" then some false else if t = "str"∧n = "tuple" then some false else if t = "NoneType"∧n = "tuple" then some false else if t = "tuple"∧n = "tuple" then some true else if t = "list"∧n = "tuple" then some false else if t = "int"∧n = "list" then some false else if t = "bool"∧n = "list" then some false else if t = "str"∧n = "list" then some false else if t = "NoneType"∧n = "list" then some false else if t = "tuple"∧n = "list" then some false else if t = "list"∧n = "list" then some true else if t = "int"∧n = "str" then some false else if t = "bool"∧n = "str" then some false else if t = "str"∧n = "str" then some true else if t = "NoneType"∧n = "str" then some false else if t = "tuple"∧n = "str" then some false else if t = "list"∧n = "str" then some false else none
theorem zlp {t n:String} {b:Bool} (h:isTy t n=some b):TyP t n b:=by
 unfold isTy at h
 by_cases h0:t = "int"∧n = "int"
 ·rw [if_pos h0] at h;cases h;obtain ⟨rfl,rfl⟩:=h0;exact .zc5
 rw [if_neg h0] at h
 by_cases h1:t = "bool"∧n = "int"
 ·rw [if_pos h1] at h;cases h;obtain ⟨rfl,rfl⟩:=h1;exact .zcL
 rw [if_neg h1] at h
 by_cases h2:t = "str"∧n = "int"
 ·rw [if_pos h2] at h;cases h;obtain ⟨rfl,rfl⟩:=h2;exact .zc1
 rw [if_neg h2] at h
 by_cases h3:t = "NoneType"∧n = "int"
 ·rw [if_pos h3] at h;cases h;obtain ⟨rfl,rfl⟩:=h3;exact .zbF
 rw [if_neg h3] at h
 by_cases h4:t = "tuple"∧n = "int"
 ·rw [if_pos h4] at h;cases h;obtain ⟨rfl,rfl⟩:=h4;exact .zcs
 rw [if_neg h4] at h
 by_cases h5:t = "list"∧n = "int"
 ·rw [if_pos h5] at h;cases h;obtain ⟨rfl,rfl⟩:=h5;exact .zcB
 rw [if_neg h5] at h
 by_cases h6:t = "int"∧n = "bool"
 ·rw [if_pos h6] at h;cases h;obtain ⟨rfl,rfl⟩:=h6;exact .zcO
 rw [if_neg h6] at h
 by_cases h7:t = "bool"∧n = "bool"
 ·rw [if_pos h7] at h;cases h;obtain ⟨rfl,rfl⟩:=h7;exact .zco
 rw [if_neg h7] at h
 by_cases h8:t = "str"∧n = "bool"
 ·rw [if_pos h8] at h;cases h;obtain ⟨rfl,rfl⟩:=h8;exact .zcC
 rw [if_neg h8] at h
 by_cases h9:t = "NoneType"∧n = "bool"
 ·rw [if_pos h9] at h;cases h;obtain ⟨rfl,rfl⟩:=h9;exact .zbs
 rw [if_neg h9] at h
 by_cases h10:t = "tuple"∧n = "bool"
 ·rw [if_pos h10] at h;cases h;obtain ⟨rfl,rfl⟩:=h10;exact .zbZ
 rw [if_neg h10] at h
 by_cases h11:t = "list"∧n = "bool"
 ·rw [if_pos h11] at h;cases h;obtain ⟨rfl,rfl⟩:=h11;exact .zcj
 rw [if_neg h11] at h
 by_cases h12:t = "int"∧n = "tuple"
 ·rw [if_pos h12] at h;cases h;obtain ⟨rfl,rfl⟩:=h12;exact .zcl
 rw [if_neg h12] at h
 by_cases h13:t = "bool"∧n = "tuple"
 ·rw [if_pos h13] at h;cases h;obtain ⟨rfl,rfl⟩:=h13;exact .zb0
 rw [if_neg h13] at h
 by_cases h14:t = "str"∧n = "tuple"
 ·rw [if_pos h14] at h;cases h;obtain ⟨rfl,rfl⟩:=h14;exact .zcq
 rw [if_neg h14] at h
 by_cases h15:t = "NoneType"∧n = "tuple"
 ·rw [if_pos h15] at h;cases h;obtain ⟨rfl,rfl⟩:=h15;exact .zbi
 rw [if_neg h15] at h
 by_cases h16:t = "tuple"∧n = "tuple"
 ·rw [if_pos h16] at h;cases h;obtain ⟨rfl,rfl⟩:=h16;exact .zbP
 rw [if_neg h16] at h
 by_cases h17:t = "list"∧n = "tuple"
 ·rw [if_pos h17] at h;cases h;obtain ⟨rfl,rfl⟩:=h17;exact .zb4
 rw [if_neg h17] at h
 by_cases h18:t = "int"∧n = "list"
 ·rw [if_pos h18] at h;cases h;obtain ⟨rfl,rfl⟩:=h18;exact .zcF
 rw [if_neg h18] at h
 by_cases h19:t = "bool"∧n = "list"
 ·rw [if_pos h19] at h;cases h;obtain ⟨rfl,rfl⟩:=h19;exact .zcc
 rw [if_neg h19] at h
 by_cases h20:t = "str"∧n = "list"
 ·rw [if_pos h20] at h;cases h;obtain ⟨rfl,rfl⟩:=h20;exact .zcG
 rw [if_neg h20] at h
 by_cases h21:t = "NoneType"∧n = "list"
 ·rw [if_pos h21] at h;cases h;obtain ⟨rfl,rfl⟩:=h21;exact .zbr
 rw [if_neg h21] at h
 by_cases h22:t = "tuple"∧n = "list"
 ·rw [if_pos h22] at h;cases h;obtain ⟨rfl,rfl⟩:=h22;exact .zb2
 rw [if_neg h22] at h
 by_cases h23:t = "list"∧n = "list"
 ·rw [if_pos h23] at h;cases h;obtain ⟨rfl,rfl⟩:=h23;exact .zce
 rw [if_neg h23] at h
 by_cases h24:t = "int"∧n = "str"
 ·rw [if_pos h24] at h;cases h;obtain ⟨rfl,rfl⟩:=h24;exact .zc4
 rw [if_neg h24] at h
 by_cases h25:t = "bool"∧n = "str"
 ·rw [if_pos h25] at h;cases h;obtain ⟨rfl,rfl⟩:=h25;exact .zcD
 rw [if_neg h25] at h
 by_cases h26:t = "str"∧n = "str"
 ·rw [if_pos h26] at h;cases h;obtain ⟨rfl,rfl⟩:=h26;exact .zcU
 rw [if_neg h26] at h
 by_cases h27:t = "NoneType"∧n = "str"
 ·rw [if_pos h27] at h;cases h;obtain ⟨rfl,rfl⟩:=h27;exact .zbA
 rw [if_neg h27] at h
 by_cases h28:t = "tuple"∧n = "str"
 ·rw [if_pos h28] at h;cases h;obtain ⟨rfl,rfl⟩:=h28;exact .zci
 rw [if_neg h28] at h
 by_cases h29:t = "list"∧n = "str"
 ·rw [if_pos h29] at h;cases h;obtain ⟨rfl,rfl⟩:=h29;exact .zcE
 rw [if_neg h29] at h
 cases h
theorem zkr (K:PySem.W.Frag) {t n:String} {b:Bool} (h:isTy t n=some b):PySem.W.kitOne K (.type t) (.type n)=some b:=(zlp h).ok K
@[simp] def gIs1 (as:List A):Mo A:=fun Ω=>match as with
 | [a, .ty n]=>(match (tyA Ω a).bind fun t=>isTy t n with
  | some b=>some (.ok (.bl b),Ω)
  | none=>none)
 | _=>none
theorem zdo:zcA X W (.builtin "isinstance") gIs1:=by
 refine ⟨_,zfi,?_⟩
 intro G ι Ω H σ xs as Q w d h
 unfold gIs1 at h
 split at h
 ·rename_i a n
  split at h
  ·rename_i b e
   rw [Option.bind_eq_some_iff] at e
   obtain ⟨t,e1,e2⟩:=e
   obtain ⟨x,y,rfl,d1,d2⟩:=den2 d
   simp only [Den] at d2;subst d2
   exact ⟨x,n,_,b,rfl,zk9 w d1 e1,zkr _ e2,h _ H G ι (Ext.refl _ _) w (by simp only [Den])⟩
  ·exact False.elim h
 ·exact False.elim h
def MtV (K:PySem.W.Frag) (W:WX) (r:V→List V→Hp→VK→Prop) (g:A→List A→Mo A):Prop :=
 ∀ G ι Ω H σ x xs a as Q,Wd K G ι Ω H→Den K G ι x a→DenL K G ι xs as→Post K (Den K) W G ι σ Q (g a as Ω)→r x xs H Q
def isL (Ω:Sto) (a:A):Prop:=∃ ds,zaj Ω a=some ds
open Classical in
@[simp] noncomputable def vBM (g:A→List A→Mo A) (fo:Ev→Mo A) (f:Ev→Mo (List A)):Ev→Mo A:=fun ρ=>mb (fo ρ) fun o Ω=>if isL Ω o then mb (f ρ) (fun as=>g o as) Ω else none
theorem ziB {K:PySem.W.Frag} {G H:Hp} {ι:List Addr} {Ω:Sto} {v:V} {a:A} (w:Wd K G ι Ω H) (d:Den K G ι v a) (h:isL Ω a):tyV K "list" v H:=by
 obtain ⟨ds,e⟩:=h
 obtain ⟨p,xs,rfl,q,_⟩:=zaD w d e
 exact .inl ⟨rfl,xs,q⟩
theorem zfx {name:Str} {apos:Pos} {id:String} {r:V→List V→Hp→VK→Prop} {g:A→List A→Mo A} (pa:PlainAttrs "list") (slot:Slot "list" name id) (hty:typeOf (.builtin id)=pure (.type "method_descriptor")) (hm:MtR X id r) (hv:MtV X.K W r g) (ho:VE X W a fa) (ha:VA X W (e :: es) fs)
  (hbase:attributeBase a name X.env (eval a X.env)=eval a X.env:=by rfl)
  (hfew:((backTo pos (starEach (e :: es) X.env)).all (fun x=>!x.1) && (backToKw pos (keywordEach [] X.env)).all (fun x=>x.1.isSome)
   && decide ((e :: es).length + ([] : List Keyword).length + (if ([] : List Keyword).isEmpty then 0 else 1) < 30))=true:=by rfl)
  (hline:(apos.endLine == pos.line)=true:=by rfl) (hs:starEach (e :: es) X.env=(false,eval e X.env) :: starEach es X.env:=by rfl) (hplain:(backTo pos (starEach es X.env)).any (·.1)=false:=by rfl) :
  VE X W (.Call (.Attribute a name apos) (e :: es) [] pos) (vBM g fa fs):=by
 obtain ⟨t,p1,s1⟩:=ho
 obtain ⟨u,p2,s2⟩:=ha
 refine ⟨_,zkU pa slot hty hm p1 p2 hbase hfew hline hs hplain,fun G ι Ω H σ ρ Q w r h=>?_⟩
 refine s1 G ι Ω H σ ρ _ w r (Post.mb h fun x Ω1 v H1 G1 ι1 x1 w1 d1 h1=>?_)
 split at h1
 ·rename_i hl
  refine ⟨ziB w1 d1 hl,s2 G1 ι1 Ω1 H1 σ ρ _ w1 (r.ext x1) (Post.mb h1 fun as Ω2 vs H2 G2 ι2 x2 w2 d2 h2=>?_)⟩
  exact hv G2 ι2 Ω2 H2 σ v vs x as Q w2 (d1.ext x2) d2 h2
 ·exact False.elim h1
def zcW (Ω:Sto):A→Option (Nat × List A)
 | .cel k=>match Ω[k]? with
  | some (.lst ds)=>some (k,ds)
  | _=>none
 | _=>none
theorem zf8 {K:PySem.W.Frag} {G H:Hp} {ι:List Addr} {Ω:Sto} {v:V} {a:A} {k:Nat} {ds:List A} (w:Wd K G ι Ω H) (d:Den K G ι v a) (h:zcW Ω a=some (k,ds)):∃ p xs,v = .ref p∧ι[k]? = some p∧G p=none∧H p=some (.lst xs)∧DenL K G ι xs ds:=by
 cases a with
 | cel j =>
  simp only [zcW] at h
  split at h
  ·rename_i es e
   cases h
   simp only [Den] at d
   obtain ⟨p,rfl,hk⟩:=d
   obtain ⟨g,xs,h3,h4⟩:=w.cel k _ p e hk
   exact ⟨p,xs,rfl,hk,g,h3,h4⟩
  ·cases h
 | _=>simp [zcW] at h
@[simp] def zcN (o:A) (as:List A):Mo A:=fun Ω=>match zcW Ω o,as with
 | some (k,ds),[y]=>if ds.length < sizeLine then some (.ok .non,Ω.set k (.lst (ds ++ [y]))) else none
 | _,_=>none
theorem zdm:MtV X.K W zgY zcN:=by
 intro G ι Ω H σ x xs a as Q w d1 d2 h
 unfold zcN at h
 split at h
 ·rename_i k ds y e
  split at h
  ·rename_i hl
   obtain ⟨p,zs,rfl,hk,g,h3,h4⟩:=zf8 w d1 e
   obtain ⟨u,rfl,du⟩:=den1 d2
   refine ⟨p,zs,u,rfl,rfl,h3,by rw [h4.length];exact hl,?_⟩
   exact h _ _ G ι (Ext.refl _ _) (w.put (c := .lst (ds ++ [y])) hk g ⟨g,_,zaq,h4.append (.cons du .nil)⟩) (by simp only [Den])
  ·exact False.elim h
 ·exact False.elim h
end
end V2
namespace V2
open PySem PySem.Spec PyProof.Rows L2
mutual
def Cl (n:Nat):A→Prop
 | .cel k=>k < n
 | .tup ds=>ClL n ds
 | .lst ds=>ClL n ds
 | _=>True
def ClL (n:Nat):List A→Prop
 | []=>True
 | d :: ds=>Cl n d∧ClL n ds
end
section
variable {K:PySem.W.Frag} {G:Hp} {ι:List Addr}
mutual
theorem Den.cl:∀ {v:V} {d:A},Den K G ι v d→Cl ι.length d
 | _, .int _,_=>by simp only [Cl]
 | _, .bl _,_=>by simp only [Cl]
 | _, .str _,_=>by simp only [Cl]
 | _, .non,_=>by simp only [Cl]
 | _, .ty _,_=>by simp only [Cl]
 | _, .adr _,_=>by simp only [Cl]
 | _, .exn _ _ _ _,_=>by simp only [Cl]
 | _, .gl _,_=>by simp only [Cl]
 | _, .scr _,_=>by simp only [Cl]
 | _, .tup ds,h=>by
  simp only [Den] at h;simp only [Cl]
  obtain ⟨a,xs,_,_,h3⟩:=h
  exact DenL.cl h3
 | _, .lst ds,h=>by
  simp only [Den] at h;simp only [Cl]
  obtain ⟨a,xs,_,_,h3⟩:=h
  exact DenL.cl h3
 | _, .cel k,h=>by
  simp only [Den] at h;simp only [Cl]
  obtain ⟨a,_,h2⟩:=h
  exact (List.getElem?_eq_some_iff.mp h2).1
theorem DenL.cl:∀ {xs:List V} {ds:List A},DenL K G ι xs ds→ClL ι.length ds
 | _,[],_=>by simp only [ClL]
 | _,d :: ds,h=>by
  simp only [DenL] at h;simp only [ClL]
  obtain ⟨x,r,_,h2,h3⟩:=h
  exact ⟨Den.cl h2,DenL.cl h3⟩
end
mutual
theorem Den.cut {ι':List Addr} {n:Nat} (e:∀ k,k < n→ι[k]? = ι'[k]?):∀ {v:V} {d:A},Den K G ι' v d→Cl n d→Den K G ι v d
 | _, .int _,h,_=>by simpa only [Den] using h
 | _, .bl _,h,_=>by simpa only [Den] using h
 | _, .str _,h,_=>by simpa only [Den] using h
 | _, .non,h,_=>by simpa only [Den] using h
 | _, .ty _,h,_=>by simpa only [Den] using h
 | _, .adr _,h,_=>by simpa only [Den] using h
 | _, .exn _ _ _ _,h,_=>by simpa only [Den] using h
 | _, .gl _,h,_=>by simpa only [Den] using h
 | _, .scr _,h,_=>by simpa only [Den] using h
 | _, .tup ds,h,c=>by
  simp only [Den] at h ⊢;simp only [Cl] at c
  obtain ⟨a,xs,h1,h2,h3⟩:=h
  exact ⟨a,xs,h1,h2,DenL.cut e h3 c⟩
 | _, .lst ds,h,c=>by
  simp only [Den] at h ⊢;simp only [Cl] at c
  obtain ⟨a,xs,h1,h2,h3⟩:=h
  exact ⟨a,xs,h1,h2,DenL.cut e h3 c⟩
 | _, .cel k,h,c=>by
  simp only [Den] at h ⊢;simp only [Cl] at c
  obtain ⟨a,h1,h2⟩:=h
  exact ⟨a,h1,(e k c).trans h2⟩
theorem DenL.cut {ι':List Addr} {n:Nat} (e:∀ k,k < n→ι[k]? = ι'[k]?):∀ {xs:List V} {ds:List A},DenL K G ι' xs ds→ClL n ds→DenL K G ι xs ds
 | _,[],h,_=>by simpa only [DenL] using h
 | _,d :: ds,h,c=>by
  simp only [DenL] at h ⊢;simp only [ClL] at c
  obtain ⟨x,r,h1,h2,h3⟩:=h
  exact ⟨x,r,h1,Den.cut e h2 c.1,DenL.cut e h3 c.2⟩
end
def ClF (n:Nat):Fd→Prop
 | .val a=>Cl n a
 | .lst ds=>ClL n ds
 | .dct kvs=>ClL n (kvs.map (·.2))
def ClFs (n:Nat):List (Str × Fd)→Prop
 | []=>True
 | p :: r=>ClF n p.2∧ClFs n r
def ClC (n:Nat):Cell→Prop
 | .lst ds=>ClL n ds
 | .dct kvs=>ClL n (kvs.map (·.2))
 | .ins _ fs=>ClFs n fs
 | _=>True
theorem FdOk.cl {H:Hp} {v:V} {fd:Fd} (h:FdOk K G ι H v fd):ClF ι.length fd:=by
 cases fd with
 | val a=>exact Den.cl h
 | lst ds=>obtain ⟨_,_,_,_,_,_,q⟩:=h;exact q.cl
 | dct kvs=>obtain ⟨_,_,_,_,_,_,_,q⟩:=h;exact q.cl
theorem zbo.cl {H:Hp}:∀ {ws:List (Str × V)} {fs:List (Str × Fd)},zbo K G ι H ws fs→ClFs ι.length fs
 | [],[],_=>trivial
 | (_,_) :: _,(_,_) :: _,h=>⟨h.2.1.cl,h.2.2.cl⟩
 | [],_ :: _,h=>h.elim
 | _ :: _,[],h=>h.elim
theorem zbL.cl {H:Hp} {a:Addr} {c:Cell} (h:zbL K G ι H a c):ClC ι.length c:=by
 cases c with
 | lst ds=>obtain ⟨_,_,_,q⟩:=h;exact q.cl
 | dct kvs=>obtain ⟨_,_,_,_,q⟩:=h;exact q.cl
 | ins cls fs=>obtain ⟨_,_,_,_,_,_,q⟩:=h;exact q.cl
 | tab x pos qual=>trivial
 | dead=>trivial
theorem FdOk.cut {H:Hp} {ι':List Addr} {n:Nat} {v:V} {fd:Fd} (h:FdOk K G ι' H v fd) (e:∀ k,k < n→ι[k]? = ι'[k]?) (hi:∀ b,b ∉ ι'→b ∉ ι) (c:ClF n fd):FdOk K G ι H v fd:=by
 cases fd with
 | val a=>exact Den.cut e h c
 | lst ds=>obtain ⟨b,xs,h1,h2,h3,h4,h5⟩:=h;exact ⟨b,xs,h1,h2,hi b h3,h4,h5.cut e c⟩
 | dct kvs=>obtain ⟨b,ws,h1,h2,h3,h4,h5,h6⟩:=h;exact ⟨b,ws,h1,h2,hi b h3,h4,h5,h6.cut e c⟩
theorem zbo.cut {H:Hp} {ι':List Addr} {n:Nat} (e:∀ k,k < n→ι[k]? = ι'[k]?) (hi:∀ b,b ∉ ι'→b ∉ ι):∀ {ws:List (Str × V)} {fs:List (Str × Fd)},zbo K G ι' H ws fs→ClFs n fs→zbo K G ι H ws fs
 | [],[],_,_=>trivial
 | (_,_) :: _,(_,_) :: _,h,c=>⟨h.1,h.2.1.cut e hi c.1,zbo.cut e hi h.2.2 c.2⟩
 | [],_ :: _,h,_=>h.elim
 | _ :: _,[],h,_=>h.elim
theorem zbL.cut {H:Hp} {ι':List Addr} {n:Nat} {a:Addr} {c:Cell} (h:zbL K G ι' H a c) (e:∀ k,k < n→ι[k]? = ι'[k]?) (hi:∀ b,b ∉ ι'→b ∉ ι) (hc:ClC n c):zbL K G ι H a c:=by
 cases c with
 | lst ds=>obtain ⟨g,xs,h1,h2⟩:=h;exact ⟨g,xs,h1,h2.cut e hc⟩
 | dct kvs=>obtain ⟨g,ws,h1,h2,h3⟩:=h;exact ⟨g,ws,h1,h2,h3.cut e hc⟩
 | ins cls fs=>obtain ⟨g,C,dx,ws,h0,h1,h2⟩:=h;exact ⟨g,C,dx,ws,h0,h1,h2.cut e hi hc⟩
 | tab x pos qual=>exact h
 | dead=>trivial
theorem Ext.cut {G':Hp} {ι':List Addr} (e:Ext G ι G' ι'):∀ k,k < ι.length→ι[k]? = ι'[k]?:=fun k hk=>by
 rw [List.getElem?_eq_getElem hk,e.pre k _ (List.getElem?_eq_getElem hk)]
theorem Wd.cut {G' H H':Hp} {ι':List Addr} {Ω Ω':Sto} (w:Wd K G ι Ω H) (w':Wd K G' ι' Ω' H') (e:Ext G ι G' ι') (ht:Ω'.take Ω.length=Ω):Wd K G' ι Ω H' where
 sub:=w'.sub
 inj:=w.inj
 len:=w.len
 live:=fun a ha=>by
  obtain ⟨k,hk,ea⟩:=List.getElem_of_mem ha
  exact w'.live a (List.mem_of_getElem? (e.pre k a (by rw [← ea];exact List.getElem?_eq_getElem hk)))
 cel:=fun k c a h1 h2=>by
  have hk:k < Ω.length:=(List.getElem?_eq_some_iff.mp h1).1
  have h1':Ω'[k]? = some c:=by
   rw [← ht,List.getElem?_take] at h1
   rw [if_pos hk] at h1;exact h1
  have q:=w'.cel k c a h1' (e.pre k a h2)
  have q0:=w.cel k c a h1 h2
  cases c with
  | lst ds =>
   obtain ⟨g,xs,h3,h4⟩:=q
   obtain ⟨_,_,_,h5⟩:=q0
   exact ⟨g,xs,h3,h4.cut e.cut h5.cl⟩
  | dct kvs =>
   obtain ⟨g,ws,h3,h4,h5⟩:=q
   obtain ⟨_,_,_,_,h6⟩:=q0
   exact ⟨g,ws,h3,h4,h5.cut e.cut h6.cl⟩
  | ins cls fs =>
   obtain ⟨g,C,dx,ws,h0,h3,h4⟩:=q
   obtain ⟨_,_,_,_,_,_,h6⟩:=q0
   exact ⟨g,C,dx,ws,h0,h3,h4.cut (n:=ι.length) e.cut (fun b hb z=>hb (by
    obtain ⟨k,hk,ea⟩:=List.getElem_of_mem z
    exact List.mem_of_getElem? (e.pre k b (by rw [← ea];exact List.getElem?_eq_getElem hk)))) h6.cl⟩
  | tab x pos qual=>exact q
  | dead=>trivial
 sep:=fun b k i k' i' h1 h2=>by
  have back:∀ {k i},zbn H' ι Ω k i b→zbn H' ι' Ω' k i b:=fun {k i} h=>h.to (fun a ha=>⟨e.pre k a ha,fun _ z=>z⟩) fun cls fs q=>by
   have hk:k < Ω.length:=(List.getElem?_eq_some_iff.mp q).1
   rw [← ht,List.getElem?_take,if_pos hk] at q
   exact q
  exact w'.sep b k i k' i' (back h1) (back h2)
end
open Classical in
noncomputable def trim (Ω:Sto):Option (Rs A × Sto)→Option (Rs A × Sto)
 | some (.ok a,Ω')=>if Ω'.take Ω.length=Ω∧Cl Ω.length a then some (.ok a,Ω) else some (.ok a,Ω')
 | some (.exc x,Ω')=>if Ω'.take Ω.length=Ω∧ClL Ω.length (x.fs.map (·.2)) then some (.exc x,Ω) else some (.exc x,Ω')
 | none=>none
theorem zjl {K:PySem.W.Frag} {W:WX} {G H:Hp} {ι:List Addr} {Ω:Sto} {σ:L2.St} {Q:VK} {r:Option (Rs A × Sto)} (w:Wd K G ι Ω H) (h:Post K (Den K) W G ι σ Q (trim Ω r)):Post K (Den K) W G ι σ Q r:=by
 match r,h with
 | some (.ok a,Ω'),h =>
  simp only [trim] at h
  split at h
  ·rename_i hc
   exact fun v H' G' ι' e w' d=>h v H' G' ι ⟨e.same,fun _ _ q=>q⟩ (w.cut w' e hc.1) (d.cut e.cut (by rw [w.len];exact hc.2))
  ·exact h
 | some (.exc x,Ω'),h =>
  simp only [trim] at h
  split at h
  ·rename_i hc
   intro cls dx H' G' ι' e w' d
   refine h cls dx H' G' ι ⟨e.same,fun _ _ q=>q⟩ (w.cut w' e hc.1) d
  ·exact h
@[simp] def outR:OS→Option (Rs A × Sto)
 | some (.nx,_,Ω)=>some (.ok .non,Ω)
 | some (.ret a,_,Ω)=>some (.ok a,Ω)
 | some (.exc x,_,Ω)=>some (.exc x,Ω)
 | _=>none
@[simp] def ev0 (n:Nat) (ds:List A):Ev:=ds.map some ++ List.replicate (n - ds.length) none
@[simp] noncomputable def fnF (n:Nat) (b:MS):List A→Mo A:=fun ds Ω=>trim Ω (outR (b (ev0 n ds) Ω))
def spV (K:PySem.W.Frag) (n:Nat) (F:List A→Mo A):Sp:=fun vs H Q E=>vs.length=n∧∃ G ι Ω ds,Wd K G ι Ω H∧DenL K G ι vs ds∧Post K (Den K) (fun _=>E) G ι [] Q (F ds Ω)
abbrev DefV (P:Program) (w:World) (K:PySem.W.Frag) (mg:Str→Option Value) (base:Heap) (x:Str) (k:Nat) (ps:List Str) (F:List A→Mo A):Prop:=DefX P w K mg base x k ps (spV K ps.length F)
theorem zg2 {K:PySem.W.Frag} {G:Hp} {ι:List Addr} {N:List Str} {vs:List V} {ds:List A} (d:DenL K G ι vs ds):EnvR K G ι (L2.start N vs) (ev0 N.length ds):=by
 unfold L2.start ev0
 have hl:=d.length
 refine ⟨by simp [hl],fun i a h=>?_⟩
 by_cases hi:i < ds.length
 ·rw [List.getElem?_append_left (by simpa using hi)] at h
  rw [List.getElem?_map] at h
  cases e:ds[i]? with
  | none=>rw [e] at h;cases h
  | some a' =>
   rw [e] at h
   cases h
   obtain ⟨v,q1,q2⟩:=d.get e
   refine ⟨v,?_,q2⟩
   rw [List.getElem?_append_left (by simp;omega),List.getElem?_map,q1]
   rfl
 ·rw [List.getElem?_append_right (by simpa using hi)] at h
  have:=List.mem_of_getElem? h
  simp at this
theorem zfh {K:PySem.W.Frag} {N:List Str} {t:TS} {b:MS} {H:Hp} {vs:List V} {Q:VK} {E:XK} {n:Nat} (s:SimS K (fun _=>E) t b) (h:spV K n (fnF N.length b) vs H Q E):t { nx:=fun _ H'=>Q .non H',rt:=Q } (L2.start N vs) H:=by
 obtain ⟨hl,G,ι,Ω,ds,w,d,q⟩:=h
 refine s G ι Ω H _ (ev0 N.length ds) _ w (zg2 d) ?_
 have q':=zjl w q
 revert q'
 generalize b (ev0 N.length ds) Ω=r
 intro q'
 match r,q' with
 | some (.nx,ρ',Ω'),q'=>exact fun σ' H' G' ι' e w' r'=>q' .non H' G' ι' e w' (by simp only [Den])
 | some (.ret a,ρ',Ω'),q'=>exact fun σ' H' G' ι' e w' r' v d'=>q' v H' G' ι' e w' d'
 | some (.exc x,ρ',Ω'),q'=>exact fun σ' H' G' ι' e w' r' cls dx d'=>q' cls dx H' G' ι' e w' d'
 | some (.bk,ρ',Ω'),q'=>exact False.elim q'
 | some (.ct,ρ',Ω'),q'=>exact False.elim q'
section
variable {P:Program} {w:World} {K:PySem.W.Frag} {mg:Str→Option Value} {base:Heap}
theorem zi4 {x:Str} {st:Stmt} {N ps:List Str} {k:Nat} {b:MS} {f:Addr} {fd:FuncData} (F:Fun K x x st f fd) (S:zaw N ps (zab st))
  (hbody:∀ (f:Addr) (cdv:Value) (A:Around) (outer:List Env) (s:Shared) (H:Hp) (E:XK),Room k (A.deeper (envOfC x (zab st) s.heap.objs.size f cdv)) →
   VSs (cxX P w K mg base N x (zab st) f cdv A outer s H E) (fun _=>E) (zal st) b):FnOk P w K mg base (CXE P w) (k + 1) f fd ps (spV K ps.length (fnF N.length b)):=by
 obtain ⟨oc,od,kV,doc,pm,an,cdv,ct,osl,rfl,lk,hcd⟩:=F.ex
 refine ziI lk hcd S (fun vs H Q E h=>h.1) fun A outer s H vs Q E hr hsp=>?_
 obtain ⟨t,p,q⟩:=hbody f cdv A outer s H E hr
 exact ⟨t,zhu p,zfh q hsp⟩
theorem DefV.of {x:Str} {st:Stmt} {N ps:List Str} {k:Nat} {b:MS} (h:HasFn K mg x st) (S:zaw N ps (zab st))
  (bind:∀ (kV doc pm:Value) (an:Option Addr) (cdv ct:Value) (us:List Value),us.length=ps.length→bindArgs (PySem.W.fnOf x x (zax st) (zal st) (zab st) .none kV doc pm an cdv ct) ⟨us,[]⟩ = pure (ps.zip us))
  (hbody:∀ (f:Addr) (cdv:Value) (A:Around) (outer:List Env) (s:Shared) (H:Hp) (E:XK),Room k (A.deeper (envOfC x (zab st) s.heap.objs.size f cdv)) →
   VSs (cxX P w K mg base N x (zab st) f cdv A outer s H E) (fun _=>E) (zal st) b):DefV P w K mg base x (k + 1) ps (fnF N.length b):=by
 obtain ⟨f,fd,hm,F⟩:=h.ex
 exact ⟨f,fd,zi4 F S hbody,hm,F.kp,F.binds bind⟩
abbrev DefN (P:Program) (w:World) (K:PySem.W.Frag) (mg:Str→Option Value) (base:Heap) (x:Str) (k:Nat) (ps:List Str) (F:List A→Mo A):Prop:=Def P w K mg base x k ps (fun vs H Q _=>spV K ps.length F vs H Q fun _ _ _=>False)
theorem zfv {k:Nat} {f:Addr} {fd:FuncData} {ps:List Str} {sp:Sp} (F:FnOk P w K mg base (CXE P w) k f fd ps sp):FnOk P w K mg base CX0 k f fd ps (fun vs H Q _=>sp vs H Q fun _ _ _=>False) :=
 ⟨fun vs H Q E h=>F.len _ _ _ _ h,fun A outer s H args us vs Q E hr e0 hb r hsp=>codeAny_mono (F.run A outer s H args us vs Q _ hr e0 hb r hsp) fun r s' hq=>by
  cases r with
  | error ev=>obtain ⟨x,cls,dx,H',_,_,_,_,_,_,q⟩:=hq;exact q.elim
  | ok fl=>cases fl <;> exact hq⟩
theorem DefV.calm {x:Str} {k:Nat} {ps:List Str} {F:List A→Mo A} (D:DefV P w K mg base x k ps F):DefN P w K mg base x k ps F:=by
 obtain ⟨f,fd,h1,h2,h3,h4⟩:=D.ex
 exact ⟨f,fd,zfv h1,h2,h3,h4⟩
def ziz (K:PySem.W.Frag):Sp:=fun vs H Q _=>∃ (a:Addr) (ns:List Int),vs=[.ref a]∧SqL K H a (ns.map V.int)∧ns.length ≤ 63∧∀ H',Q (.bl true) H'
theorem zk3 {fa:Addr} {fd:FuncData} {k:Nat} {F:List A→Mo A} (h1:FnOk P w K mg base (CXE P w) k fa fd ["_law_script"] (spV K 1 F)) (hF:∀ ns:List Int,ns.length ≤ 63→∃ Ω,F [.scr ns] []=some (.ok (.bl true),Ω)) :
  FnOk P w K mg base CX0 k fa fd ["_law_script"] (ziz K):=by
 refine (zfv h1).imp fun vs H Q E hq=>?_
 obtain ⟨a,ns,rfl,hs,hl,q⟩:=hq
 obtain ⟨Ω,e⟩:=hF ns hl
 refine ⟨rfl,H,[],[],[.scr ns],⟨Same.refl _,List.nodup_nil,rfl,fun a ha=>by simp at ha,fun k c a h=>by simp at h,fun b k i k' i' h=>by obtain ⟨_,_,_,_,_,_,_,_,_,q,_⟩:=h;simp at q⟩, .cons (by simp only [Den];exact ⟨a,rfl,hs⟩) .nil,?_⟩
 rw [e]
 intro v H' G' ι' _ _ d
 simp only [Den] at d
 subst d
 exact q H'
end
section
variable {X:Cx} {W:WX} {x:Str} {p pos:Pos} {e:Expr} {es:List Expr} {fs:Ev→Mo (List A)}
@[simp] def zaH (n:Nat) (F:List A→Mo A):List A→Mo A:=fun as=>if as.length=n then F as else stuck
theorem zeL {K:PySem.W.Frag} {G G1:Hp} {ι ι1:List Addr} {σ:L2.St} {Q:VK} {r:Option (Rs A × Sto)} {W:WX} (h:Post K (Den K) W G ι σ Q r) (x1:Ext G ι G1 ι1):Post K (Den K) (fun _=>fun cls dx H'=>W σ cls dx H') G1 ι1 [] Q r:=by
 match r,h with
 | some (.ok a,Ω2),h=>exact fun v H' G' ι' x2 w2 d2=>h v H' G' ι' (x1.trans x2) w2 d2
 | some (.exc a,Ω2),h=>exact fun cls dx H' G' ι' x2 w2 d2=>h cls dx H' G' ι' (x1.trans x2) w2 d2
theorem zbt {k:Nat} {ps:List Str} {F:List A→Mo A} (T:zdK X W) (D:DefV X.prog X.w X.K X.mg X.base x k ps F) (hr:Room k X.A) (hg:Gl X x) (ha:VA X W (e :: es) fs)
  (hdb:(x == ("__debug__" : Str))=false:=by decide) (he:starEach (e :: es) X.env=(false,eval e X.env) :: starEach es X.env:=by rfl) (hpl:(backTo pos (starEach es X.env)).any (·.1)=false:=by rfl):VE X W (.Call (.Name x p) (e :: es) [] pos) (vCl (zaH ps.length F) fs):=by
 obtain ⟨t,p1,s1⟩:=ha
 refine ⟨_,zkv T D hr hg p1 hdb he hpl,fun G ι Ω H σ ρ Q w r h=>?_⟩
 refine s1 G ι Ω H σ ρ _ w r (Post.mb h fun as Ω1 vs H1 G1 ι1 x1 w1 d1 h1=>?_)
 unfold zaH at h1
 split at h1
 ·rename_i hl
  exact ⟨by rw [d1.length];exact hl,G1,ι1,Ω1,as,w1,d1,zeL h1 (Ext.refl _ _)⟩
 ·exact False.elim h1
abbrev cI (i:Int):Ev→Mo A:=fun _=>ret (.int i)
abbrev cB (i:Bool):Ev→Mo A:=fun _=>ret (.bl i)
abbrev cT (n:String):Ev→Mo A:=fun _=>ret (.ty n)
abbrev a0:Ev→Mo (List A):=fun _=>ret []
abbrev sl0:Ev→Mo (Option Int):=fun _=>ret none
end
end V2
namespace V2
open PySem L2
section
variable {α β:Type} {Ω Ω':Sto} {a:A}
@[simp] theorem zmU (x:α) (k:α→Mo β):mb (ret x) k=k x:=rfl
theorem zcP {m:Mo α} {k:α→Mo β} {x:α} (h:m Ω=some (.ok x,Ω')):mb m k Ω=k x Ω':=by unfold mb;rw [h]
@[simp] theorem zl5 (x:α) (k:α→Mo β):mb (need (some x)) k=k x:=rfl
theorem zlu {p:Prop} [Decidable p] (k:Unit→Mo β) (h:p):mb (chk p) k=k ():=by funext Ω;simp [mb,chk,h]
@[simp] theorem zmS (x:α):(ret x:Mo α) Ω=some (.ok x,Ω):=rfl
@[simp] theorem zlz:trim Ω (some (.ok a,Ω))=some (.ok a,Ω):=by simp only [trim];split <;> rfl
theorem zf6 {Δ:Sto} (h:Cl Ω.length a):trim Ω (some (.ok a,Ω ++ Δ))=some (.ok a,Ω):=by
 simp only [trim]
 rw [if_pos ⟨by simp,h⟩]
@[simp] theorem zmV (x:α) (ρ:Ev) (k:α→Sto→OS):sM (ret x) ρ k=k x:=rfl
theorem zdt {m:Mo α} {ρ:Ev} {k:α→Sto→OS} {x:α} (h:m Ω=some (.ok x,Ω')):sM m ρ k Ω=k x Ω':=by unfold sM;rw [h]
@[simp] theorem zdn (ρ:Ev):outR (some (.ret a,ρ,Ω))=some (.ok a,Ω):=rfl
@[simp] theorem zes (ρ:Ev):outR (some (.nx,ρ,Ω))=some (.ok .non,Ω):=rfl
theorem zav {f g:MS} {ρ ρ1:Ev} (h:f ρ Ω=some (.nx,ρ1,Ω')):sSeq f g ρ Ω=g ρ1 Ω':=by unfold sSeq;rw [h]
theorem zdz {α:Type} (xs:List α) (n:Nat):atI xs (n:Int)=xs[n]?:=by
 unfold atI ixN
 rw [if_pos (by omega)]
 by_cases h:(n:Int) < xs.length
 ·rw [if_pos h];simp
 ·rw [if_neg h];simp;omega
theorem zeO {α:Type} (xs:List α) (n:Nat):atI xs (OfNat.ofNat n:Int)=xs[n]?:=zdz xs n
theorem zh2 {α:Type} (xs:List α):atI xs 0=xs[0]?:=zdz xs 0
theorem zjR {α:Type} (xs:List α):atI xs 1=xs[1]?:=zdz xs 1
end
@[simp] theorem zkM:isTy "int" "int" = some true:=by simp [isTy]
@[simp] theorem zkn:isTy "int" "bool" = some false:=by simp [isTy]
@[simp] theorem zhQ:isTy "tuple" "tuple" = some true:=by simp [isTy]
@[simp] theorem zjh:isTy "list" "list" = some true:=by simp [isTy]
@[simp] theorem zkJ (Ω:Sto) (ds:List A):zaj Ω (.lst ds)=some ds:=rfl
@[simp] theorem zkF (Ω:Sto) (ns:List Int):zaj Ω (.scr ns)=some (ns.map A.int):=rfl
@[simp] theorem zkH (Ω:Sto) (ds:List A):zaj Ω (.tup ds)=none:=rfl
@[simp] theorem zkK (Ω:Sto) (i:Int):zaj Ω (.int i)=none:=rfl
@[simp] theorem zkI (Ω:Sto) (ds:List A):za9 Ω (.lst ds)=some ds:=rfl
@[simp] theorem zkL (Ω:Sto) (ns:List Int):za9 Ω (.scr ns)=some (ns.map A.int):=rfl
@[simp] theorem zkE (Ω:Sto) (ds:List A):za9 Ω (.tup ds)=some ds:=rfl
@[simp] theorem zkG (Ω:Sto) (k:Nat):za9 Ω (.cel k)=zaj Ω (.cel k):=rfl
@[simp] theorem zmu (Ω:Sto) (i:Int):tyA Ω (.int i)=some "int":=rfl
@[simp] theorem zmR (Ω:Sto) (i:Bool):tyA Ω (.bl i)=some "bool":=rfl
@[simp] theorem zmn (Ω:Sto) (i:Str):tyA Ω (.str i)=some "str":=rfl
@[simp] theorem zms (Ω:Sto):tyA Ω .non=some "NoneType":=rfl
@[simp] theorem zmo (Ω:Sto) (ds:List A):tyA Ω (.tup ds)=some "tuple":=rfl
@[simp] theorem zmb (Ω:Sto) (ds:List A):tyA Ω (.lst ds)=some "list":=rfl
@[simp] theorem zln:zht .non=some true:=rfl
@[simp] theorem zlA (i:Int):zht (.int i)=some false:=rfl
@[simp] theorem zlG (ds:List A):zht (.tup ds)=some false:=rfl
@[simp] theorem zk6 (ds:List A):zht (.lst ds)=some false:=rfl
@[simp] theorem zl3 (b:Bool):zht (.bl b)=some false:=rfl
theorem zan {Ω:Sto} {k:Nat} {ds:List A} (h:Ω[k]? = some (.lst ds)):zaj Ω (.cel k)=some ds:=by simp [zaj,h]
theorem zjO {Ω:Sto} {k:Nat} {ds:List A} (h:Ω[k]? = some (.lst ds)):tyA Ω (.cel k)=some "list":=by simp [tyA,h]
theorem zbU {Ω:Sto} {k:Nat} {ds:List A} (h:Ω[k]? = some (.lst ds)):zcW Ω (.cel k)=some (k,ds):=by simp [zcW,h]
theorem zdC {Ω:Sto} {a:A} {ds:List A} (h:zaj Ω a=some ds):isL Ω a:=⟨ds,h⟩
section
variable {ok:Sto→Prop} {g:A→MS} {b:MS} {x:A} {xs:List A} {ρ ρ0 ρ1:Ev} {Ω Ω0 Ω1:Sto} {a:A}
theorem zim (h:ok Ω):fFor ok g b [] ρ Ω=some (.nx,ρ,Ω):=by simp [fFor,h]
theorem zbq (h:ok Ω) (hg:g x ρ Ω=some (.nx,ρ0,Ω0)) (hb:b ρ0 Ω0=some (.nx,ρ1,Ω1)):fFor ok g b (x :: xs) ρ Ω=fFor ok g b xs ρ1 Ω1:=by simp [fFor,h,hg,hb]
theorem zkb (h:ok Ω) (hg:g x ρ Ω=some (.nx,ρ0,Ω0)) (hb:b ρ0 Ω0=some (.ct,ρ1,Ω1)):fFor ok g b (x :: xs) ρ Ω=fFor ok g b xs ρ1 Ω1:=by simp [fFor,h,hg,hb]
theorem zdh (I:Nat→Ev→Sto→Prop) (hok:∀ i ρ Ω,I i ρ Ω→ok Ω):∀ (xs:List A) (j:Nat) (ρ:Ev) (Ω:Sto),I j ρ Ω →
  (∀ i x ρ Ω,xs[i]? = some x→I (j + i) ρ Ω→∃ ρ0 Ω0 ρ1 Ω1,g x ρ Ω=some (.nx,ρ0,Ω0)∧(b ρ0 Ω0=some (.nx,ρ1,Ω1)∨b ρ0 Ω0=some (.ct,ρ1,Ω1))∧I (j + i + 1) ρ1 Ω1) →
  ∃ ρ' Ω',fFor ok g b xs ρ Ω=some (.nx,ρ',Ω')∧I (j + xs.length) ρ' Ω'
 | [],j,ρ,Ω,h0,_=>⟨ρ,Ω,zim (hok _ _ _ h0),h0⟩
 | x :: xs,j,ρ,Ω,h0,turn=>by
  obtain ⟨ρ0,Ω0,ρ1,Ω1,e1,e2,e3⟩:=turn 0 x ρ Ω rfl h0
  obtain ⟨ρ',Ω',q1,q2⟩:=zdh I hok xs (j + 1) ρ1 Ω1 e3 fun i y ρ Ω hy hI=>by
   have:=turn (i + 1) y ρ Ω (by simpa using hy) (by rw [show j + (i + 1)=j + 1 + i by omega];exact hI)
   rwa [show j + (i + 1) + 1=j + 1 + i + 1 by omega] at this
  refine ⟨ρ',Ω',?_,by rw [List.length_cons,show j + (xs.length + 1)=j + 1 + xs.length by omega];exact q2⟩
  rcases e2 with e2 | e2
  ·rw [zbq (hok _ _ _ h0) e1 e2,q1]
  ·rw [zkb (hok _ _ _ h0) e1 e2,q1]
end
section
variable {c:Ev→Mo Bool} {b:MS} {n:Nat} {ρ ρ1:Ev} {Ω Ω1 Ω2:Sto} {a:A}
theorem zfm (hc:c ρ Ω=some (.ok true,Ω1)) (hb:b ρ Ω1=some (.nx,ρ1,Ω2)):zbM c b (n + 1) ρ Ω=zbM c b n ρ1 Ω2:=by simp [zbM,hc,hb]
theorem zd3 (hc:c ρ Ω=some (.ok false,Ω1)):zbM c b (n + 1) ρ Ω=some (.nx,ρ,Ω1):=by simp [zbM,hc]
end
end V2
namespace V2
open PySem PySem.Spec PyProof.Rows L2
section
variable {X:Cx} {pins:List (Addr × Obj)} {σ:L2.St} {H:Hp} {s:Shared} {h':Heap}
end
theorem Inv.zmC {X:Cx} {pins:List (Addr × Obj)} {σ:L2.St} {H:Hp} {s:Shared} {p:Addr} {o:HO} (I:Inv X pins σ H s) (hp:H p=none) (h0:X.s₀.heap.get? p=none) (hL:p ≠ X.env.locals) (hC:∀ x c,X.env.cells.lookup x=some c→c ≠ p) (hP:∀ q ∈ X.pn ++ pins,q.1 ≠ p)
  (hok:HOk X.prog X.w (upd H p o) s.heap):Inv X pins σ (upd H p o) s where
 ok:=I.ok
 os:=I.os
 bare:=I.bare
 base:={
  keep:=I.base.keep
  slot:=I.base.slot
  free:=fun b ob q n hx=>by
   have hb:b ≠ p:=fun z=>by subst z;rw [h0] at q;cases q
   rw [zai hb];exact I.base.free b ob q n hx
  there:=I.base.there
  tups:=fun b xs q=>by have z:=I.base.tups b xs q;rw [zai (zau z hp)];exact z
  frzs:=fun b ob u q=>by have z:=I.base.frzs b ob u q;rw [zai (zau z hp)];exact z
  tbls:=fun b ps q=>by obtain ⟨more,z⟩:=I.base.tbls b ps q;exact ⟨more,by rw [zai (zau z hp)];exact z⟩ }
 loc:=I.loc
 cell:=I.cell
 free:=by rw [zai (Ne.symm hL)];exact I.free
 freeC:=fun x c q=>by rw [zai (hC x c q)];exact I.freeC x c q
 pin:=fun q hq=>by
  obtain ⟨a,b,c⟩:=I.pin q hq
  exact ⟨a,by rw [zai (hP q hq)];exact b,c⟩
 hok:=hok
 len:=I.len
section
variable {X:Cx} {W:WX} {pos:Pos}
end
end V2
namespace V2
open PySem PySem.Spec PyProof.Rows L2
def lcEv (n:Nat) (js:List Nat) (ρ:Ev):Ev:=List.replicate n none ++ js.map (fun j=>(ρ[j]?).join)
def VIf (X:Cx) (W:WX) (ifs:List Expr) (f:Ev→Mo Bool):Prop:=∃ t,PIf X ifs t∧Sim X.K relB W t f
theorem zjY {X:Cx} {W:WX} {c:Expr} {f:Ev→Mo Bool} (h:VT X W c f):VIf X W [c] f:=let ⟨t,p,s⟩:=h; ⟨t,zjE p,s⟩
open Classical in
noncomputable def fLC (ok:Sto→Prop) (g:A→MS) (c:Ev→Mo Bool) (e:Ev→Mo A) (n:Nat):List A→Ev→Sto→Option (Ev × Sto)
 | [],ρ,Ω=>if ok Ω then some (ρ,Ω) else none
 | x :: xs,ρ,Ω=>if ok Ω then (match g x ρ Ω with
  | some (.nx,ρ1,Ω1)=>(match c ρ1 Ω1 with
   | some (.ok true,Ω2)=>(match e ρ1 Ω2 with
    | some (.ok y,Ω3)=>(match Ω3[n]? with
     | some (.lst ys)=>if ys.length < sizeLine then fLC ok g c e n xs ρ1 (Ω3.set n (.lst (ys ++ [y]))) else none
     | _=>none)
    | _=>none)
   | some (.ok false,Ω2)=>fLC ok g c e n xs ρ1 Ω2
   | _=>none)
  | _=>none) else none
open Classical in
noncomputable def zjX (cf:Bool) (Ω1:Sto) (r:Option (Ev × Sto)):Option (Rs A × Sto):=match r with
 | some (_,Ω')=>(match Ω'[Ω1.length]? with
  | some (.lst ys)=>if cf then some (.ok (.cel Ω1.length),Ω') else if Ω'.take Ω1.length=Ω1∧ClL Ω1.length ys then some (.ok (.lst ys),Ω1) else some (.ok (.lst ys),Ω'.set Ω1.length .dead)
  | _=>none)
 | none=>none
noncomputable def vLC (cf:Bool) (n:Nat) (js:List Nat) (fi:Ev→Mo Src) (g:A→MS) (c:Ev→Mo Bool) (e:Ev→Mo A):Ev→Mo A:=fun ρ=>mb (fi ρ) fun S Ω1=>zjX cf Ω1 (fLC S.ok g c e Ω1.length S.ds (lcEv n js ρ) (Ω1 ++ [.lst []]))
theorem zk7 {ok:Sto→Prop} {g:A→MS} {c:Ev→Mo Bool} {e:Ev→Mo A} {n:Nat} {xs:List A} {ρ:Ev} {Ω:Sto} {r:Ev × Sto} (h:fLC ok g c e n xs ρ Ω=some r):ok Ω:=by
 cases xs with
 | nil=>unfold fLC at h;by_cases hp:ok Ω;exact hp;rw [if_neg hp] at h;cases h
 | cons=>unfold fLC at h;by_cases hp:ok Ω;exact hp;rw [if_neg hp] at h;cases h
theorem zjQ {K:PySem.W.Frag} {G:Hp} {ι:List Addr} {σ:L2.St} {ρ:Ev} (ls:List Str) (js:List Nat) (r:EnvR K G ι σ ρ):EnvR K G ι (lcSt ls js σ) (lcEv ls.length js ρ):=by
 unfold lcSt lcEv
 refine ⟨by simp,fun i d h=>?_⟩
 by_cases hi:i < ls.length
 ·rw [List.getElem?_append_left (by simpa using hi)] at h
  rw [List.getElem?_replicate,if_pos hi] at h
  cases h
 ·rw [List.getElem?_append_right (by simpa using Nat.le_of_not_lt hi),List.length_replicate,List.getElem?_map] at h
  cases e:js[i - ls.length]? with
  | none=>rw [e] at h;cases h
  | some j =>
   rw [e] at h
   have h':(ρ[j]?).join=some d:=Option.some.inj h
   obtain ⟨v,q1,q2⟩:=r.2 j d (join_some h')
   refine ⟨v,?_,q2⟩
   rw [List.getElem?_append_right (by simpa using Nat.le_of_not_lt hi),List.length_map,List.getElem?_map,e]
   show some (σ[j]?).join=_
   rw [q1];rfl
section
variable {K:PySem.W.Frag} {W:WX}
theorem zlk {ls:List Str} {js:List Nat} {wi:TI} {tg:TG} {tc:TT} {te:TE} {fi:Ev→Mo Src} {g:A→MS} {c:Ev→Mo Bool} {e:Ev→Mo A} {cf:Bool} (W0:WX) (hi:Sim K (relI K) W wi fi) (hg:SimG K W0 tg g) (hc:Sim K relB W0 tc c) (he:Sim K (Den K) W0 te e) :
  Sim K (Den K) W (tLC ls js wi tg tc te) (vLC cf ls.length js fi g c e):=by
 intro G ι Ω H σ ρ Q w r h
 refine hi G ι Ω H σ ρ _ w r (Post.mb h fun S Ω1 J H1 G1 ι1 x1 w1 j1 h1=>?_)
 intro D hD
 unfold zjX at h1
 cases er:fLC S.ok g c e Ω1.length S.ds (lcEv ls.length js ρ) (Ω1 ++ [.lst []]) with
 | none=>rw [er] at h1;exact False.elim h1
 | some rr =>
 obtain ⟨ρe,Ωe⟩:=rr
 rw [er] at h1
 simp only at h1
 have hw0:Wd K G1 (ι1 ++ [D]) (Ω1 ++ [.lst []]) (upd H1 D (.lst [])):=w1.cell hD ⟨w1.zdc hD,[],zaq, .nil⟩
 have r0:EnvR K G1 (ι1 ++ [D]) (lcSt ls js σ) (lcEv ls.length js ρ):=zjQ ls js (r.ext (x1.trans (Ext.cell D)))
 have hDk:(ι1 ++ [D])[Ω1.length]? = some D:=by rw [← w1.len];simp
 refine ⟨fun i m σ' H'=>m=S.ds.length - i∧i ≤ S.ds.length∧∃ G' ι' Ω' ρ',Ext G1 (ι1 ++ [D]) G' ι'∧Wd K G' ι' Ω' H'∧EnvR K G' ι' σ' ρ'∧fLC S.ok g c e Ω1.length (S.ds.drop i) ρ' Ω'=some (ρe,Ωe),
  ⟨_,rfl,Nat.zero_le _,G1,_,_,_,Ext.refl _ _,hw0,r0,by simpa using er⟩,?_⟩
 rintro i m σ' H' ⟨rfl,hil,G',ι',Ω',ρ',e',w',r',h'⟩
 have hok:=zk7 h'
 have eJ:Ext G1 ι1 G' ι':=(Ext.cell D).trans e'
 by_cases hlt:i < S.ds.length
 ·right
  refine ⟨j1.go G' ι' Ω' H' eJ w' hok i hlt,fun σ2 H2=>∃ G2 ι2 Ω2 ρ2,Ext G1 (ι1 ++ [D]) G2 ι2∧Wd K G2 ι2 Ω2 H2∧EnvR K G2 ι2 σ2 ρ2∧fLC S.ok g c e Ω1.length (S.ds.drop (i + 1)) ρ2 Ω2=some (ρe,Ωe),fun σ2 H2 n=>?_,fun x H2 y=>?_⟩
  ·exact ⟨S.ds.length - (i + 1),by omega,rfl,hlt,n⟩
  ·obtain ⟨G2,e2,w2,d2⟩:=j1.yld G' ι' Ω' H' eJ w' hok i x H2 S.ds[i] (List.getElem?_eq_getElem hlt) y
   rw [List.drop_eq_getElem_cons hlt] at h'
   unfold fLC at h'
   rw [if_pos hok] at h'
   refine hg G2 ι' Ω' H2 σ' ρ' x S.ds[i] ⟨_,fun _ _=>False,fun _ _=>False,fun _ _=>False⟩ w2 (r'.ext e2) d2 ?_
   revert h'
   generalize g S.ds[i] ρ' Ω'=q
   intro h'
   split at h'
   ·rename_i ρ3 Ω3
    intro σ3 H3 G3 ι3 x3 w3 r3
    refine hc G3 ι3 Ω3 H3 σ3 ρ3 _ w3 r3 ?_
    revert h'
    generalize c ρ3 Ω3=q2
    intro h'
    split at h'
    ·rename_i Ω4
     intro b H4 G4 ι4 x4 w4 hb
     cases (show b=true from hb)
     rw [if_pos rfl]
     refine he G4 ι4 Ω4 H4 σ3 ρ3 _ w4 (r3.ext x4) ?_
     revert h'
     generalize e ρ3 Ω4=q3
     intro h'
     split at h'
     ·rename_i z Ω5
      intro v H5 G5 ι5 x5 w5 d5
      split at h'
      ·rename_i ys ey
       split at h'
       ·rename_i hl
        have eD:=(((e'.trans e2).trans x3).trans x4).trans x5
        have hk:=eD.pre _ _ hDk
        obtain ⟨gg,xs,q1,q2⟩:=w5.cel _ _ D ey hk
        refine ⟨xs,q1,by rw [q2.length];exact hl,G5,ι5,_,ρ3,eD,w5.put (c := .lst (ys ++ [z])) hk gg ⟨gg,_,zaq,q2.append (.cons d5 .nil)⟩,(r3.ext x4).ext x5,h'⟩
       ·cases h'
      ·cases h'
     ·cases h'
    ·rename_i Ω4
     intro b H4 G4 ι4 x4 w4 hb
     cases (show b=false from hb)
     rw [if_neg (by simp)]
     exact ⟨G4,ι4,Ω4,ρ3,((e'.trans e2).trans x3).trans x4,w4,r3.ext x4,h'⟩
    ·cases h'
   ·cases h'
 ·have hie:i=S.ds.length:=by omega
  subst hie
  left
  refine ⟨j1.stop G' ι' Ω' H' eJ w' hok _ (Nat.le_refl _),?_⟩
  rw [List.drop_length] at h'
  unfold fLC at h'
  rw [if_pos hok] at h'
  cases h'
  split at h1
  ·rename_i ys ey
   have hk:=e'.pre _ _ hDk
   obtain ⟨gg,xs,q1,q2⟩:=w'.cel _ _ D ey hk
   split at h1
   ·exact h1 _ H' G' ι' eJ w' (by simp only [Den];exact ⟨D,rfl,hk⟩)
   ·have wf:=w'.freeze hk gg q1
    split at h1
    ·rename_i hcut
     have eC:Ext G1 ι1 (upd G' D (.lst xs)) ι':=eJ.trans (Ext.new gg _)
     have wc:=w1.cut wf eC (by rw [List.take_set_of_le (Nat.le_refl _)];exact hcut.1)
     refine h1 _ H' _ ι1 ⟨eC.same,fun _ _ q=>q⟩ wc ?_
     simp only [Den]
     exact ⟨D,xs,rfl,zaq,(q2.ext (Ext.new gg _)).cut eC.cut (by rw [w1.len];exact hcut.2)⟩
    ·refine h1 _ H' _ ι' (eJ.trans (Ext.new gg _)) wf ?_
     simp only [Den]
     exact ⟨D,xs,rfl,zaq,q2.ext (Ext.new gg _)⟩
  ·exact False.elim h1
end
def tCan {α β:Type} (K:PySem.W.Frag) (rel:Rl α β) (W:WX) (f:Ev→Mo α):L2.St→Hp→(β→Hp→Prop)→Prop:=fun σ H Q=>∃ G ι Ω ρ,Wd K G ι Ω H∧EnvR K G ι σ ρ∧Post K rel W G ι σ Q (f ρ Ω)
def zkQ (K:PySem.W.Frag) (W:WX) (g:A→MS):TG:=fun v σ H Q=>∃ G ι Ω ρ a D,Wd K G ι Ω H∧EnvR K G ι σ ρ∧Den K G ι v a∧zaQ K W G ι D (g a ρ Ω)∧D.nx=Q
theorem zhl {α β:Type} {K:PySem.W.Frag} {rel:Rl α β} {W:WX} {f:Ev→Mo α}:Sim K rel W (tCan K rel W f) f:=fun G ι Ω H σ ρ Q w r h=>⟨G,ι,Ω,ρ,w,r,h⟩
theorem zis {K:PySem.W.Frag} {W:WX} {g:A→MS}:SimG K W (zkQ K W g) g:=fun G ι Ω H σ ρ v a D w r d h=>⟨G,ι,Ω,ρ,a,D,w,r,d,h,rfl⟩
theorem VE.can {X:Cx} {W:WX} {e:Expr} {f:Ev→Mo A} (h:VE X W e f):PE X e (tCan X.K (Den X.K) W f):=by
 obtain ⟨t,p,s⟩:=h
 exact fun pins sh σ H Q I ⟨G,ι,Ω,ρ,w,r,q⟩=>p pins sh σ H Q I (s G ι Ω H σ ρ Q w r q)
theorem VIf.can {X:Cx} {W:WX} {ifs:List Expr} {f:Ev→Mo Bool} (h:VIf X W ifs f):PIf X ifs (tCan X.K relB W f):=by
 obtain ⟨t,p,s⟩:=h
 exact fun pins sh σ H Q I ⟨G,ι,Ω,ρ,w,r,q⟩=>p pins sh σ H Q I (s G ι Ω H σ ρ Q w r q)
theorem VG.can {X:Cx} {W:WX} {tg:Expr} {g:A→MS} (h:VG X W tg g):PG X tg (zkQ X.K W g):=by
 obtain ⟨t,p,s⟩:=h
 exact fun pins sh σ H v u Q I rv ⟨G,ι,Ω,ρ,a,D,w,r,d,q,e⟩=>p pins sh σ H v u Q I rv (e ▸ s G ι Ω H σ ρ v a D w r d q)
abbrev noW:WX:=fun _ _ _ _=>False
theorem zmc {X:Cx} {W:WX} {elt tg iter:Expr} {ifs:List Expr} {scope:Scope} {pos:Pos} {fi:Ev→Mo Src} {g:A→MS} {c:Ev→Mo Bool} {e:Ev→Mo A} (cf:Bool) (ls:List Str) (js:List Nat) (hc:X.calm=true) (L:LcOk X scope ls js) (hi:VI X W tg iter fi)
  (hb:∀ cl C s H fp,VG (lcCx X scope ls js cl C s H fp) noW tg g∧VIf (lcCx X scope ls js cl C s H fp) noW ifs c∧VE (lcCx X scope ls js cl C s H fp) noW elt e)
  (hs:∀ x,foldedSetIterable iter X.env x=pure x:=by intro _;rfl):VE X W (.ListComp elt [⟨tg,iter,ifs,0⟩] scope pos) (vLC cf ls.length js fi g c e):=by
 obtain ⟨t1,p1,s1⟩:=hi
 exact ⟨_,zmA hc L p1 (fun cl C s H fp=>⟨(hb cl C s H fp).1.can,(hb cl C s H fp).2.1.can,(hb cl C s H fp).2.2.can⟩) hs,zlk _ s1 zis zhl zhl⟩
end V2
namespace V2
open PySem PySem.Spec PyProof.Rows L2
section
variable {X:Cx} {W:WX}
end
end V2
namespace M
open PySem V2
noncomputable def zdZ:MS :=
 (sSeq (sAsg (vOp (gMod) (vOp (gMul) (vOp (gAdd false) (vVar 0) (cI 1)) (vOp (gAdd false) (cI 48271) (vOp (gMul) (cI 118) (vVar 1)))) (cI 2147483629)) (gN 2))
  (sRet (vOp (gMod) (vOp (gAdd false) (vOp (gAdd false) (vOp (gMul) (vOp (gDiv) (vVar 2) (cI 977)) (cI 16807)) (vOp (gMul) (vVar 2) (vOp (gAdd false) (vOp (gMul) (vVar 1) (vVar 1)) (cI 7)))) (vVar 1)) (cI 2147483587))))
noncomputable def zaL:List A→Mo A:=fnF 3 zdZ
noncomputable def zcK:MS :=
 (sSeq (sAsg (cI 0) (gN 2))
  (sSeq (sIf (zaW (vOp gLt (vVar 1) (vCl gLen (zac (vVar 0) a0))))
   (sAsg (vOp (gMod) (vOp gIx (vVar 0) (vVar 1)) (cI 2147483647)) (gN 2))
   sNx)
  (sRet (vCl (zaH 2 zaL) (zac (vVar 2) (zac (vOp (gAdd false) (vVar 1) (cI 101)) a0))))))
noncomputable def zaA:List A→Mo A:=fnF 3 zcK
end M
namespace M
open PySem V2
end M
namespace M
open PySem V2
end M
namespace V2
open PySem PySem.Spec PyProof.Rows L2
section
variable {K:PySem.W.Frag} {G:Hp} {ι:List Addr}
end
section
variable {X:Cx} {W:WX} {o i e:Expr} {pos:Pos} {fo fi fe:Ev→Mo A}
end
end V2
namespace V2
open PySem PySem.Spec PyProof.Rows L2
section
variable {X:Cx} {W:WX} {x:Str} {e:Expr} {es:List Expr} {np cpos pos:Pos} {fs:Ev→Mo (List A)}
end
section
variable {X:Cx} {W:WX} {st:Stmt} {rest:List Stmt} {f g:MS}
end
section
variable {P:Program} {w:World} {K:PySem.W.Frag} {mg:Str→Option Value} {base:Heap}
end
end V2
namespace V2
open PySem PySem.Spec PyProof.Rows L2
structure XTab (K:PySem.W.Frag) (rs ns:List Str):Prop where
 xc:∀ n ∈ ns,∀ D,PySem.W.nsIn K mainGlobals n=some (some (.ref D))→XC K D
 sub:∀ n ∈ rs,∀ m ∈ ns,∀ D C,PySem.W.nsIn K mainGlobals n=some (some (.ref D))→PySem.W.nsIn K mainGlobals m=some (some (.ref C))→PySem.W.subIn K (.ref D) (.ref C)=some (n == m || m == ("RankError" : Str))
 ve:∀ n ∈ rs,∀ D,PySem.W.nsIn K mainGlobals n=some (some (.ref D))→PySem.W.subIn K (.ref D) (.type "ValueError")=some true
 rn:∀ n ∈ rs,n ∈ ns
def xtab (rs ns:List Str) (n m:Str):Option Bool:=if n ∈ rs∧m ∈ ns then some (n == m || m == ("RankError" : Str)) else none
theorem XTab.own {K:PySem.W.Frag} {rs ns:List Str} (T:XTab K rs ns) (n m:Str) (b:Bool) (D C:Addr) (h:xtab rs ns n m=some b) (hn:PySem.W.nsIn K mainGlobals n=some (some (.ref D))) (hm:PySem.W.nsIn K mainGlobals m=some (some (.ref C))):PySem.W.kitOne K (.ref D) (.ref C)=some b:=by
 unfold xtab at h
 split at h
 ·rename_i q
  cases h
  exact zjz (T.xc _ (T.rn _ q.1) _ hn) (T.xc _ q.2 _ hm) (T.sub _ q.1 _ q.2 _ _ hn hm)
 ·cases h
section
variable {K:PySem.W.Frag} {rs ns:List Str} {G:Hp} {ι:List Addr}
end
end V2
namespace V2
open PySem PySem.Spec PyProof.Rows L2
def eqI (i:Int):Value→Bool
 | .int j _=>j == i
 | _=>false
theorem zfL {ns:List Int} {its:List Value} (r:Vals (ns.map V.int) its):∀ y ∈ its,∃ j t,y = .int j t:=by
 induction ns generalizing its with
 | nil=>cases r;intro y h;cases h
 | cons n ns ih =>
  cases r with
  | cons r1 r2 =>
   obtain ⟨t,rfl⟩:=r1
   intro y h
   rcases List.mem_cons.mp h with z | z
   ·exact ⟨n,t,z⟩
   ·exact ih r2 y z
end V2
namespace V2
open PySem PySem.Spec PyProof.Rows L2
section
variable {X:Cx} {W:WX} {x y:Str} {e:Expr} {es:List Expr} {np cpos pos hpos:Pos} {fs:Ev→Mo (List A)}
end
end V2
namespace L2
open PySem PySem.Spec PyProof.Rows
end L2
namespace V2
end V2
namespace L2
open PySem PySem.Spec PyProof.Rows
theorem Top1.nox {X:Cx} (t:Top1 X):Top1 X.nox:=⟨t.1,t.2,t.3⟩
end L2
namespace M
open PySem V2
end M
namespace KS
open PySem PySem.W PyProof.Rows
def go {α:Type} (lt:Nat→Nat→Bool):KasT α→α
 | .ret a=>a
 | .ask i j k=>go lt (k (lt i j))
theorem zdr {α β:Type} (lt:Nat→Nat→Bool) (f:α→KasT β):∀ t:KasT α,go lt (t.bind f)=go lt (f (go lt t))
 | .ret _=>rfl
 | .ask i j k=>by
  show go lt ((k (lt i j)).bind f)=_
  rw [zdr lt f (k (lt i j))];rfl
section
variable (r:Nat→Int)
abbrev ltR:Nat→Nat→Bool:=fun i j=>decide (r i < r j)
def Ky (p:Array Nat) (i:Nat):Int:=r (p.getD i 0)
def Up (p:Array Nat) (k:Nat):Prop:=∀ i j,i ≤ j→j < k→Ky r p i ≤ Ky r p j
def Dn (p:Array Nat) (k:Nat):Prop:=∀ i j,i ≤ j→j < k→Ky r p j ≤ Ky r p i
variable {r}
theorem getD_eq {p q:Array Nat} {i j:Nat} (h:p[i]? = q[j]?):p.getD i 0=q.getD j 0:=by
 simp [Array.getD_eq_getD_getElem?,h]
theorem ze4 {p q:Array Nat} {i j:Nat} (h:Ky r p i < Ky r q j):ltR r (p.getD i 0) (q.getD j 0)=true:=decide_eq_true h
theorem zhp {p q:Array Nat} {i j:Nat} (h:¬ Ky r p i < Ky r q j):ltR r (p.getD i 0) (q.getD j 0)=false:=decide_eq_false h
theorem zgL {p:Array Nat} {i j:Nat} (hj:j ≤ p.size) (k:Nat):Ky r (kas_rev p i j) k=if i ≤ k∧k < j then Ky r p (i + j - 1 - k) else Ky r p k:=by
 have h:=getElem?_mirror_all (i:=i) hj k
 unfold Ky kas_rev
 split
 ·rename_i c;rw [if_pos c] at h;rw [getD_eq h]
 ·rename_i c;rw [if_neg c] at h;rw [getD_eq h]
theorem zdI {p:Array Nat} {i j:Nat} (hj:j ≤ p.size) (e:∀ k,i ≤ k→k < j→Ky r p k=Ky r p (j - 1)) (k:Nat):Ky r (kas_rev p i j) k=Ky r p k:=by
 rw [zgL hj]
 split
 ·rename_i c;rw [e _ (by omega) (by omega),e k c.1 c.2]
 ·rfl
theorem zb3 (p:Array Nat) (i j:Nat):(kas_rev p i j).size=p.size:=mirror_size _ _ _ _
theorem zdg (p:Array Nat) (i j:Nat):(kas_rev p i j).Perm p:=mirror_perm _ _ _ _
theorem zjs {p:Array Nat} {n:Nat} (h1:1 ≤ n) (h:Up r p n) (hn:Ky r p (n - 1) ≤ Ky r p n):Up r p (n + 1):=by
 intro i j hij hj
 by_cases e:j=n
 ·subst e
  by_cases e2:i=j
  ·subst e2;exact Int.le_refl _
  ·exact Int.le_trans (h i (j - 1) (by omega) (by omega)) hn
 ·exact h i j hij (by omega)
theorem zej {p:Array Nat} {n:Nat} (h1:1 ≤ n) (h:Dn r p n) (hn:Ky r p n ≤ Ky r p (n - 1)):Dn r p (n + 1):=by
 intro i j hij hj
 by_cases e:j=n
 ·subst e
  by_cases e2:i=j
  ·subst e2;exact Int.le_refl _
  ·exact Int.le_trans hn (h i (j - 1) (by omega) (by omega))
 ·exact h i j hij (by omega)
theorem asc {p:Array Nat}:∀ (f n:Nat),1 ≤ n→Up r p n→∃ m,go (ltR r) (kas_asc p f n)=m∧n ≤ m∧m ≤ n + f∧Up r p m∧(m < n + f→Ky r p m < Ky r p (m - 1))
 | 0,n,_,h=>⟨n,rfl,Nat.le_refl _,Nat.le_refl _,h,fun z=>by omega⟩
 | f + 1,n,h1,h=>by
  by_cases c:Ky r p n < Ky r p (n - 1)
  ·refine ⟨n,?_,Nat.le_refl _,by omega,h,fun _=>c⟩
   have c':=ze4 c
   simp only [kas_asc,go,c',if_true]
  ·obtain ⟨m,e,a,b,u,l⟩:=asc f (n + 1) (by omega) (zjs h1 h (by omega))
   refine ⟨m,?_,by omega,by omega,u,fun z=>l (by omega)⟩
   rw [← e]
   have c':=zhp c
   simp only [kas_asc,go,c',Bool.false_eq_true,if_false]
theorem desc:∀ (f:Nat) (p:Array Nat) (n q:Nat),q + 1 ≤ n→n + f ≤ p.size→Dn r p n→(∀ k,n - (q + 1) ≤ k→k < n→Ky r p k=Ky r p (n - 1)) →
  ∃ p' m q',go (ltR r) (kas_desc f p n q)=(p',m,q')∧n ≤ m∧m ≤ n + f∧q' + 1 ≤ m∧p'.size=p.size∧p'.Perm p∧(∀ k,Ky r p' k=Ky r p k)∧Dn r p' m∧(∀ k,m - (q' + 1) ≤ k→k < m→Ky r p' k=Ky r p' (m - 1))
 | 0,p,n,q,hq,_,hd,he=>⟨p,n,q,rfl,Nat.le_refl _,Nat.le_refl _,hq,rfl, .refl _,fun _=>rfl,hd,he⟩
 | f + 1,p,n,q,hq,hz,hd,he=>by
  by_cases c:Ky r p n < Ky r p (n - 1)
  ·have c':=ze4 c
   have hd1:Dn r p (n + 1):=zej (by omega) hd (by omega)
   by_cases q0:q > 0
   ·have ek:∀ k,Ky r (kas_rev p (n - (q + 1)) n) k=Ky r p k:=zdI (by omega) he
    have hd2:Dn r (kas_rev p (n - (q + 1)) n) (n + 1):=fun i j a b=>by rw [ek,ek];exact hd1 i j a b
    obtain ⟨p',m,q',e,a1,a2,a3,a4,a5,a6,a7,a8⟩:=desc f (kas_rev p (n - (q + 1)) n) (n + 1) 0 (by omega) (by rw [zb3];omega) hd2 (fun k k1 k2=>by
     have:k=n + 1 - 1:=by omega
     rw [this])
    refine ⟨p',m,q',?_,by omega,by omega,a3,by rw [a4,zb3],a5.trans (zdg _ _ _),fun k=>by rw [a6,ek],a7,a8⟩
    rw [← e]
    simp only [kas_desc,go,c',if_true,q0]
   ·obtain ⟨p',m,q',e,a1,a2,a3,a4,a5,a6,a7,a8⟩:=desc f p (n + 1) 0 (by omega) (by omega) hd1 (fun k k1 k2=>by
     have:k=n + 1 - 1:=by omega
     rw [this])
    refine ⟨p',m,q',?_,by omega,by omega,a3,a4,a5,a6,a7,a8⟩
    rw [← e]
    simp only [kas_desc,go,c',if_true,q0,if_false]
  ·have c':=zhp c
   by_cases d:Ky r p (n - 1) < Ky r p n
   ·have d':=ze4 d
    refine ⟨p,n,q,?_,Nat.le_refl _,by omega,hq,rfl, .refl _,fun _=>rfl,hd,he⟩
    simp only [kas_desc,go,c',d',Bool.false_eq_true,if_true,if_false]
   ·have d':=zhp d
    have eq:Ky r p n=Ky r p (n - 1):=by omega
    obtain ⟨p',m,q',e,a1,a2,a3,a4,a5,a6,a7,a8⟩:=desc f p (n + 1) (q + 1) (by omega) (by omega) (zej (by omega) hd (by omega)) (fun k k1 k2=>by
     rw [show n + 1 - 1=n by omega]
     by_cases z:k=n
     ·rw [z]
     ·rw [he k (by omega) (by omega),eq])
    refine ⟨p',m,q',?_,by omega,by omega,a3,a4,a5,a6,a7,a8⟩
    rw [← e]
    simp only [kas_desc,go,c',d',Bool.false_eq_true,if_false]
theorem zhw {p:Array Nat} {n:Nat} (hn:n ≤ p.size) (h:Dn r p n):Up r (kas_rev p 0 n) n:=by
 intro i j hij hj
 rw [zgL hn,zgL hn,if_pos ⟨by omega,by omega⟩,if_pos ⟨by omega,hj⟩]
 exact h _ _ (by omega) (by omega)
theorem tail3 {p:Array Nat} {n nrem:Nat} (h1:1 ≤ n) (hn:n ≤ nrem) (hz:nrem ≤ p.size) (h:Dn r p n):∃ m p',go (ltR r) (kas_tail3 n nrem p)=(m,p')∧1 ≤ m∧m ≤ nrem∧p'.size=p.size∧p'.Perm p∧Up r p' m:=by
 obtain ⟨m,e,a,b,u,_⟩:=asc (r:=r) (nrem - n) n h1 (zhw (by omega) h)
 refine ⟨m,kas_rev p 0 n,?_,by omega,by omega,zb3 _ _ _,zdg _ _ _,u⟩
 unfold kas_tail3
 rw [zdr,e];rfl
theorem descPart {p:Array Nat} {n nrem:Nat} (h1:1 ≤ n) (hn:n + 1 ≤ nrem) (hz:nrem ≤ p.size) (h:Dn r p (n + 1)):∃ m p',go (ltR r) (kas_descPart n nrem p)=(m,p')∧1 ≤ m∧m ≤ nrem∧p'.size=p.size∧p'.Perm p∧Up r p' m:=by
 obtain ⟨p1,m1,q1,e,a1,a2,a3,a4,a5,a6,a7,a8⟩:=desc (r:=r) (nrem - (n + 1)) p (n + 1) 0 (by omega) (by omega) h (fun k k1 k2=>by
  have:k=n + 1 - 1:=by omega
  rw [this])
 by_cases q0:q1 > 0
 ·have ek:∀ k,Ky r (kas_rev p1 (m1 - (q1 + 1)) m1) k=Ky r p1 k:=zdI (by omega) a8
  obtain ⟨m,p',e2,b1,b2,b3,b4,b5⟩:=tail3 (p:=kas_rev p1 (m1 - (q1 + 1)) m1) (n:=m1) (nrem:=nrem) (r:=r) (by omega) (by omega) (by rw [zb3];omega) (fun i j x y=>by rw [ek,ek];exact a7 i j x y)
  refine ⟨m,p',?_,b1,b2,by rw [b3,zb3,a4],b4.trans ((zdg _ _ _).trans a5),b5⟩
  unfold kas_descPart
  rw [zdr,e]
  simp only [q0,if_true]
  exact e2
 ·obtain ⟨m,p',e2,b1,b2,b3,b4,b5⟩:=tail3 (p:=p1) (n:=m1) (nrem:=nrem) (r:=r) (by omega) (by omega) (by omega) a7
  refine ⟨m,p',?_,b1,b2,by rw [b3,a4],b4.trans a5,b5⟩
  unfold kas_descPart
  rw [zdr,e]
  simp only [q0,if_false]
  exact e2
theorem count {p:Array Nat} {nrem:Nat} (h1:1 ≤ nrem) (hz:nrem ≤ p.size):∃ m p',go (ltR r) (kas_count nrem p)=(m,p')∧1 ≤ m∧m ≤ nrem∧p'.size=p.size∧p'.Perm p∧Up r p' m:=by
 obtain ⟨n,e,a,b,u,l⟩:=asc (r:=r) (p:=p) (nrem - 1) 1 (Nat.le_refl _) (fun i j x y=>by
  have:i=j:=by omega
  rw [this];exact Int.le_refl _)
 unfold kas_count
 rw [zdr,e]
 by_cases c1:n=nrem
 ·subst c1
  refine ⟨n,p,by simp [go],a,Nat.le_refl _,rfl, .refl _,u⟩
 ·have c1':(n == nrem)=false:=by simpa using c1
  have lt:=l (by omega)
  simp only [c1',Bool.false_eq_true,if_false]
  by_cases c2:n > 1
  ·simp only [c2,if_true,go]
   by_cases c3:Ky r p 0 < Ky r p (n - 1)
   ·have c3':=ze4 c3
    simp only [c3',if_true,go]
    exact ⟨n,p,rfl,a,by omega,rfl, .refl _,u⟩
   ·have c3':=zhp c3
    simp only [c3',Bool.false_eq_true,if_false]
    have eqs:∀ k,k < n→Ky r p k=Ky r p (n - 1):=fun k hk=>by
     have x:=u 0 k (by omega) hk
     have y:=u k (n - 1) (by omega) (by omega)
     omega
    have ek:∀ k,Ky r (kas_rev p 0 n) k=Ky r p k:=zdI (by omega) fun k _ hk=>eqs k hk
    obtain ⟨m,p',e2,b1,b2,b3,b4,b5⟩:=descPart (r:=r) (p:=kas_rev p 0 n) (n:=n) (nrem:=nrem) (by omega) (by omega) (by rw [zb3];omega) (zej (by omega) (fun i j x y=>by rw [ek,ek,eqs i (by omega),eqs j y];exact Int.le_refl _) (by rw [ek,ek];omega))
    exact ⟨m,p',e2,b1,b2,by rw [b3,zb3],b4.trans (zdg _ _ _),b5⟩
  ·simp only [c2,if_false]
   have n1:n=1:=by omega
   subst n1
   exact descPart (Nat.le_refl _) (by omega) hz (zej (Nat.le_refl _) (fun i j x y=>by
    have:i=j:=by omega
    rw [this];exact Int.le_refl _) (by omega))
theorem place {p:Array Nat} {k:Nat} (hu:Up r p k):∀ (f l t:Nat),l ≤ t→t ≤ k→t - l ≤ f→(∀ i,i < l→Ky r p i ≤ Ky r p k)→(∀ i,t ≤ i→i < k→Ky r p k < Ky r p i) →
  ∃ m,go (ltR r) (kas_place p k f l t)=m∧m ≤ k∧(∀ i,i < m→Ky r p i ≤ Ky r p k)∧(∀ i,m ≤ i→i < k→Ky r p k < Ky r p i)
 | 0,l,t,h1,h2,h3,h4,h5=>⟨l,rfl,by omega,h4,fun i a b=>h5 i (by omega) b⟩
 | f + 1,l,t,h1,h2,h3,h4,h5=>by
  by_cases c:l ≥ t
  ·exact ⟨l,by simp only [kas_place,c,if_true,go],by omega,h4,fun i a b=>h5 i (by omega) b⟩
  ·by_cases d:Ky r p k < Ky r p ((l + t) / 2)
   ·have d':=ze4 d
    obtain ⟨m,e,a1,a2,a3⟩:=place hu f l ((l + t) / 2) (by omega) (by omega) (by omega) h4 (fun i a b=>by
     have:=hu ((l + t) / 2) i a b
     omega)
    refine ⟨m,?_,a1,a2,a3⟩
    rw [← e]
    simp only [kas_place,c,if_false,go,d',if_true]
   ·have d':=zhp d
    obtain ⟨m,e,a1,a2,a3⟩:=place hu f ((l + t) / 2 + 1) t (by omega) h2 (by omega) (fun i a=>by
     have:=hu i ((l + t) / 2) (by omega) (by omega)
     omega) h5
    refine ⟨m,?_,a1,a2,a3⟩
    rw [← e]
    simp only [kas_place,c,if_false,go,d',Bool.false_eq_true]
end
end KS
namespace KS
open PySem PySem.W PyProof.Rows
def reach {α:Type} (lt:Nat→Nat→Bool) (N:Nat):KasT α→Prop
 | .ret _=>True
 | .ask i j k=>i < N∧j < N∧reach lt N (k (lt i j))
def Bd (N:Nat) (p:Array Nat):Prop:=0 < N∧∀ x ∈ p,x < N
section
variable {lt:Nat→Nat→Bool} {N:Nat}
theorem Bd.get {p:Array Nat} (h:Bd N p) (i:Nat):p.getD i 0 < N:=by
 rw [Array.getD_eq_getD_getElem?]
 cases e:p[i]? with
 | none=>exact h.1
 | some x=>exact h.2 x (Array.mem_of_getElem? e)
end
end KS
namespace KS
open PySem PySem.W PyProof.Rows
def lexB:List Int→List Int→Bool
 | [],[]=>false
 | [],_ :: _=>true
 | _ :: _,[]=>false
 | a :: as,b :: bs=>if a=b then lexB as bs else decide (a < b)
section
variable {prog:Program} {w:World} {A:Around} {E:Value→Shared→Prop} {s:Shared}
end
end KS
namespace KS
open PySem PySem.W PyProof.Rows
def TupAt (h:Heap) (v:Value) (ns:List Int):Prop:=∃ a o xs n,v = .ref a∧h.get? a=some o∧o.cls = .type "tuple"∧o.data = .seq xs n∧IntsAre xs.toList ns
def zcn (h:Heap):List Value→List (List Int)→Prop
 | [],[]=>True
 | v :: vs,t :: ts=>TupAt h v t∧zcn h vs ts
 | _,_=>False
theorem zcn.len {h:Heap}:∀ {vs:List Value} {ts:List (List Int)},zcn h vs ts→vs.length=ts.length
 | [],[],_=>rfl
 | _ :: _,_ :: _,t=>by simp [zcn.len t.2]
 | [],_ :: _,t=>t.elim
 | _ :: _,[],t=>t.elim
theorem zcn.get {h:Heap}:∀ {vs:List Value} {ts:List (List Int)},zcn h vs ts→∀ i,i < ts.length→TupAt h (vs.getD i .none) (ts.getD i [])
 | [],[],_,i,hi=>by simp at hi
 | _ :: _,_ :: _,t,0,_=>t.1
 | _ :: _,_ :: _,t,i + 1,hi=>by simpa using zcn.get t.2 i (by simpa using hi)
 | [],_ :: _,t,_,_=>t.elim
 | _ :: _,[],t,_,_=>t.elim
theorem zcn.keeps {h h':Heap} (k:∀ b o,h.get? b=some o→o.cls = .type "tuple"→h'.get? b=some o):∀ {vs:List Value} {ts:List (List Int)},zcn h vs ts→zcn h' vs ts
 | [],[],_=>trivial
 | _ :: _,_ :: _,⟨⟨a,o,xs,n,h1,h2,h3,h4⟩,t⟩=>⟨⟨a,o,xs,n,h1,k _ _ h2 h3,h3,h4⟩,zcn.keeps k t⟩
 | [],_ :: _,t=>t.elim
 | _ :: _,[],t=>t.elim
section
variable {prog:Program} {w:World} {A:Around} {E:Value→Shared→Prop} {s:Shared}
end
end KS
namespace V2
open PySem PySem.Spec PyProof.Rows L2 KS
def TupV (H:Hp):List V→List (List Int)→Prop
 | [],[]=>True
 | y :: ys,t :: ts=>(∃ b,y = .ref b∧H b=some (.tup (t.map V.int)))∧TupV H ys ts
 | _,_=>False
section
variable {X:Cx} {W:WX}
theorem TupV.len {H:Hp}:∀ {ys:List V} {ts:List (List Int)},TupV H ys ts→ys.length=ts.length
 | [],[],_=>rfl
 | _ :: _,_ :: _,t=>by simp [TupV.len t.2]
 | [],_ :: _,t=>t.elim
 | _ :: _,[],t=>t.elim
end
end V2
namespace V2
open PySem PySem.Spec PyProof.Rows L2
def maxL:List Int→Int
 | []=>0
 | [a]=>a
 | a :: b :: r=>max a (maxL (b :: r))
theorem zeA:∀ {ns:List Int},ns ≠ []→maxL ns ∈ ns∧∀ x ∈ ns,x ≤ maxL ns
 | [],h=>absurd rfl h
 | [a],_=>by simp [maxL]
 | a :: b :: r,_=>by
  obtain ⟨h1,h2⟩:=zeA (ns:=b :: r) (by simp)
  simp only [maxL]
  refine ⟨?_,fun x hx=>?_⟩
  ·by_cases c:a ≤ maxL (b :: r)
   ·rw [Int.max_eq_right c];exact List.mem_cons_of_mem _ h1
   ·rw [Int.max_eq_left (by omega)];exact List.mem_cons_self ..
  ·rcases List.mem_cons.mp hx with z | z
   ·subst z;omega
   ·have:=h2 x z;omega
theorem zdH {ns:List Int} {M:Int} (h:M ∈ ns) (hm:∀ x ∈ ns,x ≤ M):M=maxL ns:=by
 have hne:ns ≠ []:=fun z=>by rw [z] at h;cases h
 obtain ⟨h1,h2⟩:=zeA hne
 have:=h2 M h;have:=hm _ h1;omega
section
variable {X:Cx} {W:WX}
theorem zhc (hc:X.calm=true):zcI X (.builtin "max") (fun xs H Q=>∃ (a:Addr) (ns:List Int),xs=[.ref a]∧SqL X.K H a (ns.map V.int)∧ns ≠ []∧Q (.int (maxL ns)) H):=by
 intro pins s σ H xs us Q I r h
 obtain ⟨a,ns,rfl,hq,hne,q⟩:=h
 obtain ⟨u,rfl,ru⟩:=vals1 r
 cases ru
 obtain ⟨its,rv,pl,hz⟩:=I.list hq
 have hi:IntsAre its ns:=intsAre_of rv
 have hl:=pl.isList
 obtain ⟨ys,e⟩:=hi.allInts.items
 have hns:ns=ys.toList.map (·.1):=by rw [← hi.numsOf,← nums_intItems,← e]
 have hsz:0 < ys.size:=by
  have h3:0 < ns.length:=List.length_pos_iff.mpr hne
  rw [hns,List.length_map,Array.length_toList] at h3;exact h3
 rw [e] at hl
 refine max_intList (I.ok.hd hc) hl hsz fun v h' tk hv hk=>?_
 obtain ⟨t,rfl⟩:=intItems_at hv
 obtain ⟨h1,h2⟩:=argBest_gt (numAt ys) (ys.size - 1)
 have hM:numAt ys (argBest (fun i j=>decide (numAt ys i > numAt ys j)) (ys.size - 1))=maxL ns:=zdH (by
  rw [hns,numAt_eq,List.getD_eq_getElem?_getD,List.getElem?_eq_getElem (by rw [List.length_map,Array.length_toList];omega)]
  exact List.getElem_mem _) fun a ha=>by
  rw [hns] at ha
  obtain ⟨j,hj,rfl⟩:=mem_getD ha
  rw [List.length_map,Array.length_toList] at hj
  rw [← numAt_eq];exact h2 j (by omega)
 exact ⟨.int (maxL ns),H,I.kept hk,⟨t,by rw [hM]⟩,q⟩
@[simp] def zku (as:List A):Mo A:=fun Ω=>match as with
 | [a]=>(match (zaj Ω a).bind intsOf with
  | some ns=>if ns=[] then none else some (.ok (.int (maxL ns)),Ω)
  | none=>none)
 | _=>none
theorem zlI (hc:X.calm=true):zcA X W (.builtin "max") zku:=by
 refine ⟨_,zhc hc,?_⟩
 intro G ι Ω H σ xs as Q w d h
 unfold zku at h
 split at h
 ·rename_i a
  split at h
  ·rename_i ns e
   split at h
   ·exact False.elim h
   ·rename_i hne
    obtain ⟨x,rfl,d1⟩:=den1 d
    rw [Option.bind_eq_some_iff] at e
    obtain ⟨ds,e1,e2⟩:=e
    obtain ⟨p,ys,rfl,h2,h3⟩:=zaD w d1 e1
    rw [zcb e2 h3] at h2
    exact ⟨p,ns,rfl,h2,hne,h _ H G ι (Ext.refl _ _) w (by simp only [Den])⟩
  ·exact False.elim h
 ·exact False.elim h
@[simp] def zkw (as:List A):Mo A:=match as with
 | [.int i]=>ret (.int i)
 | [.bl b]=>ret (.int (if b then 1 else 0))
 | _=>stuck
theorem zlP:zcA X W (.type "int") zkw:=by
 refine ⟨_,zgH,?_⟩
 intro G ι Ω H σ xs as Q w d h
 unfold zkw at h
 split at h
 ·rename_i i
  obtain ⟨x,rfl,d1⟩:=den1 d
  simp only [Den] at d1;subst d1
  exact .inl ⟨i,rfl,zbc w (by simp only [Den]) h⟩
 ·rename_i b
  obtain ⟨x,rfl,d1⟩:=den1 d
  simp only [Den] at d1;subst d1
  exact .inr ⟨b,rfl,zbc w (by simp only [Den]) h⟩
 ·exact False.elim h
end
end V2
namespace M
open PySem V2
end M
namespace V2
open PySem PySem.Spec PyProof PyProof.Rows L2
section
variable {X:Cx} {W:WX} {e a b:Expr} {es:List Expr} {pos:Pos} {fa fb:Ev→Mo A} {te:TE} {tl th tk:TO} {lo hi stp:Option Expr}
end
end V2
namespace L2
open PySem PySem.Spec PyProof.Rows
section
variable {X:Cx}
end
end L2
namespace V2
open PySem PySem.Spec PyProof.Rows L2
end V2
namespace L2
open PySem PySem.Spec PyProof.Rows
def BltB (h:Heap) (mg:Str→Option Value):Prop:=∃ bm o,mg "__builtins__" = some (.ref bm)∧bm ≠ builtinsNs∧h.get? bm=some o∧o.cls = .type "module"∧o.dict=some builtinsNs∧o.data = .plain
end L2
namespace L2
open PySem PySem.Spec PyProof.Rows
structure zmZ (h:Heap) (H:Hp) (f:Addr) (qual:Str) (params:Arguments) (body:Expr) (scope:Scope) (caps:List (Str × Int)):Prop where
 ex:∃ (cl:List (Str × Addr)) (pm ctv:Value) (c':Addr) (oc:Obj) (vs:Array Value) (t:Tok),
  H f=some (.frz (PySem.W.kla_obj "<lambda>" qual params body scope cl pm c' ctv) (.own 0))∧H c'=some (.frz oc (.own 0))∧oc.data = .fields vs∧vs[1]? = some (.str qual t) ∧
  (∀ x y c,cl.lookup x=some c→cl.lookup y=some c→x=y)∧(∀ y ∈ scope.names,y.2 = .free→∃ c,cl.lookup y.1=some c) ∧
  (∀ x c,cl.lookup x=some c→(∃ v,h.IsCell c v)∧H c=none)∧∀ p ∈ caps,∃ c t,cl.lookup p.1=some c∧h.IsCell c (some (.int p.2 t))
structure zh8 (scope:Scope) (y:Str) (cs:List Str):Prop where
 kind:scope.kind = .function
 co:scope.isCoroutine=false
 gen:scope.isGenerator=false
 nocell:∀ x ∈ scope.names,x.2 ≠ .cell
 par:scope.names.lookup y=some .local
 cap:∀ x ∈ cs,scope.names.lookup x=some .free
section
variable {P:Program} {w:World} {K:PySem.W.Frag} {mg:Str→Option Value} {base:Heap} {A:Around} {outer:List Env} {s:Shared} {H:Hp}
end
end L2
namespace V2
open PySem PySem.Spec PyProof.Rows L2
section
variable {X:Cx} {W:WX} {e:Expr} {fa:Ev→Mo A} {p pos:Pos}
end
end V2
namespace L2
open PySem PySem.Spec PyProof.Rows
section
variable {X:Cx}
end
end L2
namespace L2
open PySem PySem.Spec PyProof.Rows
end L2
namespace V2
open PySem PySem.Spec PyProof.Rows L2
structure TabF (K:PySem.W.Frag) (mg:Str→Option Value) (base:Heap) (x:Str):Prop where
 kin:K.In base
 glob:base.Ns mainGlobals mg
 blt:BltB base mg
 hd:∃ c P,PySem.W.tabIn K x=some (c,P)∧PySem.W.codeHdIn K c P=true
section
variable {P:Program} {w:World} {K:PySem.W.Frag} {mg:Str→Option Value} {base:Heap}
end
end V2
namespace V2
open PySem PySem.Spec PyProof.Rows L2
section
variable {X:Cx} {W:WX} {e:Expr} {fa:Ev→Mo A} {p pos:Pos}
end
end V2
namespace V2
open PySem PySem.Spec PyProof.Rows L2
structure FwOk (X:Cx) (scope:Scope) (y:Str) (cs:List Str) (js:List Nat):Prop where
 S:zh8 scope y cs
 free:∀ y ∈ scope.names,y.2 = .free→X.env.kindOf y.1=some .cell∨X.env.kindOf y.1=some .free
 caps:js.map (fun j=>X.N[j]?)=cs.map some
 cell:∀ x ∈ cs,X.env.scope.names.lookup x=some .cell
def zjU (sc:Scope) (N:List Str) (scope:Scope) (y:Str) (cs:List Str) (js:List Nat):Prop :=
 ((scope.kind == .function)=true∧scope.isCoroutine=false∧scope.isGenerator=false)∧(∀ x ∈ scope.names,(x.2 == .cell)=false)∧(scope.names.lookup y == some .local)=true∧(∀ x ∈ cs,(scope.names.lookup x == some .free)=true) ∧
 (∀ y ∈ scope.names,(y.2 == .free)=true→(sc.names.lookup y.1 == some .cell)=true)∧js.map (fun j=>N[j]?)=cs.map some∧∀ x ∈ cs,(sc.names.lookup x == some .cell)=true
instance (sc:Scope) (N:List Str) (scope:Scope) (y:Str) (cs:List Str) (js:List Nat):Decidable (zjU sc N scope y cs js):=by unfold zjU;infer_instance
theorem FwOk.of {X:Cx} {scope:Scope} {y:Str} {cs:List Str} {js:List Nat} (sc:Scope) (N:List Str) (h1:X.env.scope=sc) (h2:X.N=N) (h:zjU sc N scope y cs js):FwOk X scope y cs js:=by
 obtain ⟨⟨a1,a2,a3⟩,a4,a5,a6,a7,a8,a9⟩:=h
 refine ⟨⟨by simpa using a1,a2,a3,fun x hx=>by simpa using a4 x hx,by simpa using a5,fun x hx=>by simpa using a6 x hx⟩,fun y hy hf => .inl ?_,by rw [h2];exact a8,fun x hx=>by rw [h1];simpa using a9 x hx⟩
 have:=a7 y hy (by simp [hf])
 show X.env.scope.names.lookup y.1=some .cell
 rw [h1];simpa using this
@[elab_as_elim] theorem us0 {P:List Value→Prop} (us:List Value) (h:us.length=0) (f:P []):P us:=by cases us with | nil=>exact f | cons _ _=>simp at h
@[elab_as_elim] theorem us1 {P:List Value→Prop} (us:List Value) (h:us.length=1) (f:∀ a,P [a]):P us:=by
 cases us with
 | nil=>simp at h
 | cons a r=>exact us0 r (by simpa using h) (f a)
@[elab_as_elim] theorem us2 {P:List Value→Prop} (us:List Value) (h:us.length=2) (f:∀ a b,P [a,b]):P us:=by
 cases us with
 | nil=>simp at h
 | cons a r=>exact us1 (P:=fun r=>P (a :: r)) r (by simpa using h) (f a)
@[elab_as_elim] theorem us3 {P:List Value→Prop} (us:List Value) (h:us.length=3) (f:∀ a b c,P [a,b,c]):P us:=by
 cases us with
 | nil=>simp at h
 | cons a r=>exact us2 (P:=fun r=>P (a :: r)) r (by simpa using h) (f a)
section
variable {P:Program} {w:World} {K:PySem.W.Frag} {mg:Str→Option Value} {base:Heap}
end
end V2
namespace M
open PySem V2
end M
namespace V2
open PySem PySem.Spec PyProof.Rows L2
def minL:List Int→Int
 | []=>0
 | [a]=>a
 | a :: b :: r=>min a (minL (b :: r))
theorem zeW:∀ {ns:List Int},ns ≠ []→minL ns ∈ ns∧∀ x ∈ ns,minL ns ≤ x
 | [],h=>absurd rfl h
 | [a],_=>by simp [minL]
 | a :: b :: r,_=>by
  obtain ⟨h1,h2⟩:=zeW (ns:=b :: r) (by simp)
  simp only [minL]
  refine ⟨?_,fun x hx=>?_⟩
  ·by_cases c:a ≤ minL (b :: r)
   ·rw [Int.min_eq_left c];exact List.mem_cons_self ..
   ·rw [Int.min_eq_right (by omega)];exact List.mem_cons_of_mem _ h1
  ·rcases List.mem_cons.mp hx with z | z
   ·subst z;omega
   ·have:=h2 x z;omega
theorem zds {ns:List Int} {M:Int} (h:M ∈ ns) (hm:∀ x ∈ ns,M ≤ x):M=minL ns:=by
 have hne:ns ≠ []:=fun z=>by rw [z] at h;cases h
 obtain ⟨h1,h2⟩:=zeW hne
 have:=h2 M h;have:=hm _ h1;omega
section
variable {X:Cx} {W:WX}
end
end V2
namespace M
open PySem V2
end M
namespace L2
open PySem PySem.Spec PyProof.Rows
section
variable {prog:Program} {w:World} {A:Around} {E:Value→Shared→Prop} {h:Heap} {g:Array GenState} {d:Drawn} {t:Nat} {os:OsState}
variable {nm q:Str} {C N:Addr} {bs bm bmB:List Value} {hdct:Bool} {sn:List Str} {sub:List Value} {ab:Bool} {col:Option Bool} {dd:Option Addr} {k0 k1 k2 k3 k5:Option Value} {B newId initId:String}
end
end L2
namespace L2
open PySem PySem.Spec PyProof.Rows
section
variable {prog:Program} {w:World} {A:Around} {E:Value→Shared→Prop} {h:Heap} {g:Array GenState} {d:Drawn} {t:Nat} {os:OsState}
variable {nm q:Str} {C N:Addr} {bs bm bmB:List Value} {hdct:Bool} {sn:List Str} {sub:List Value} {ab:Bool} {col:Option Bool} {dd:Option Addr} {k0 k1 k2 k3 k5:Option Value} {B newId initId:String}
end
end L2
namespace L2
open PySem PySem.Spec PyProof.Rows Builtin Builtin.ObjectAttr
section
variable {prog:Program} {w:World} {A:Around} {E:Value→Shared→Prop} {h:Heap} {g:Array GenState} {d:Drawn} {t:Nat} {os:OsState} {K:PySem.W.Frag}
variable {nm q:Str} {C N:Addr} {bs bm:List Value} {sn:List Str} {sub:List Value} {ab:Bool} {col:Option Bool} {dd:Option Addr} {k0 k1 k2 k3 k5:Option Value} {newId:String}
end
end L2
namespace L2
open PySem PySem.Spec PyProof.Rows
section
variable {X:Cx}
def zl9 (j:Nat):TE:=fun σ H Q=>∃ i,σ[j]? = some (some (.int i))∧i.natAbs.log2 < 1920∧∀ x,Q (.str x) H
end
end L2
namespace L2
open PySem PySem.Spec PyProof.Rows
theorem zgu {K:PySem.W.Frag} {h:Heap} {N:Addr} {mg:Str→Option Value} {n:Str} {v:Value} (X:K.In h) (G:h.Ns N mg) (e:PySem.W.nsIn K N n=some (some v)):mg n=some v:=by
 obtain ⟨o,es,ep,ho,hd,_,hf⟩:=G
 unfold PySem.W.nsIn at e
 split at e
 ·rename_i c d es' n' sl q
  have:=X _ _ q
  rw [ho] at this
  cases this
  cases hd
  split at e
  ·rename_i en he
   cases e
   rw [← hf]
   unfold nsFind findBy
   rw [← Array.find?_toList,he]
   rfl
  ·split at e <;> cases e
 ·cases e
def zi2 (K:PySem.W.Frag) (C fI:Addr):Bool:=match K.lookup C with
 | some ⟨.type "type",_, .cls cd,sl⟩=>(match cd.mro,sl.toList with
  | .ref C' :: bm,[_,_,_,_,some (.builtin n),_]=>C' == C && n == "ValueError.__new__" && !cd.hasDel && cd.hasDict && PySem.W.tailIn K bmVE bm && PySem.W.nsOkIn K cd.ns && PySem.W.nsIn K cd.ns "__init__" == some (some (.ref fI))
  | _,_=>false)
 | _=>false
structure OwnI (K:PySem.W.Frag) (C fI:Addr) (fld:Str):Prop where
 inK:zi2 K C fI=true
 fn:PySem.W.typeIn K (.ref fI)=some (.type "function")
 setA:PySem.W.findIn K (.ref C) "__setattr__" = some (some (.builtin "object.__setattr__"))
 nof:PySem.W.findIn K (.ref C) fld=some none
theorem OwnI.obj {K:PySem.W.Frag} {C fI:Addr} {fld:Str} (O:OwnI K C fI fld) {h:Heap} (X:K.In h):∃ bm N nm q bs sn sub ab col dd k0 k1 k2 k3 k5 mN oI,h.get? C=some (excClassObj nm q C N bs bm true sn sub ab col dd k0 k1 k2 k3 k5 "ValueError.__new__")∧h.Ns N mN∧mN "__init__" = some (.ref fI)∧OwnTail h bmVE bm∧h.get? fI=some oI∧oI.cls = .type "function":=by
 have q:=O.inK
 obtain ⟨oI,ho',hc'⟩:=Option.map_eq_some_iff.mp O.fn
 unfold zi2 at q
 split at q
 ·rename_i dd cd sl ho
  split at q
  ·rename_i C' bm k0 k1 k2 k3 n k5 hm hs
   simp only [Bool.and_eq_true,beq_iff_eq,Bool.not_eq_true'] at q
   obtain ⟨⟨⟨⟨⟨⟨rfl,rfl⟩,hdel⟩,hdi⟩,ht⟩,hok⟩,hni⟩:=q
   obtain ⟨nm,bs,mro,ns,qn,hd,sn,sub,ab,col,del⟩:=cd
   dsimp only at hm hdel hok hni hdi
   subst hm hdel hdi
   have hsl:sl = #[k0,k1,k2,k3,some (.builtin "ValueError.__new__"),k5]:=by
    obtain ⟨l⟩:=sl
    simp only at hs
    rw [hs]
   subst hsl
   exact ⟨bm,ns,nm,qn,bs,sn,sub,ab,col,dd,k0,k1,k2,k3,k5,_,oI,X _ _ ho, .of_isNs (PySem.W.isNs_of_in X hok),zgu X (.of_isNs (PySem.W.isNs_of_in X hok)) hni,PySem.W.tail_of_in X ht,X _ _ ho',hc'⟩
  ·cases q
 ·cases q
structure zm0 (K:PySem.W.Frag) (R:Addr):Prop where
 reads:PySem.W.readsIn K R (.type "type")=true
 find:PySem.W.findCls K (.ref R) (.type "type") "__init__" = some (.val (.builtin "ValueError.__init__"))
 ga:PySem.W.specialIn K (.ref R) "__getattribute__" = some (some (.builtin "type.__getattribute__"))
end L2
namespace L2
open PySem PySem.Spec PyProof.Rows
section
variable {X:Cx} {pins:List (Addr × Obj)} {σ:St} {H:Hp} {s1:Shared} {C fI R e:Addr} {fld qual rk sf pa:Str} {st:Stmt} {fd:FuncData} {t:Tok} {i:Int} {h2:Heap} {k:Nat} {je:Expr} {np ap cp ep p1 p2 ap2 p3 apos:Pos}
end
end L2
namespace L2
open PySem PySem.Spec PyProof.Rows
section
variable {X:Cx} {pins:List (Addr × Obj)} {σ:St} {H:Hp} {s1:Shared} {C fI R e:Addr} {fld qual rk sf pa:Str} {st:Stmt} {fd:FuncData} {t:Tok} {i:Int} {h2:Heap} {k:Nat} {je:Expr} {np ap cp ep p1 p2 ap2 p3 apos:Pos}
structure zmY (st:Stmt) (fld rk sf pa:Str):Prop where
 scope:zaw [sf,pa] [sf,pa] (zab st)
 glob:(zab st).names.lookup rk=some .globalImplicit
 loc0:(zab st).names.lookup sf=some .local
 loc1:(zab st).names.lookup pa=some .local
 dbg:(rk == ("__debug__" : Str))=false∧(sf == ("__debug__" : Str))=false∧(pa == ("__debug__" : Str))=false∧(sf == ("__classdict__" : Str))=false∧(pa == ("__classdict__" : Str))=false
 text:∃ (je:Expr) (np ap cp ep p1 p2 ap2 p3 apos:Pos),zal st=[.Expr (.Call (.Attribute (.Name rk np) "__init__" ap) [.Name sf p1,je] [] cp) ep, .Assign [.Attribute (.Name sf p2) fld ap2] (.Name pa p3) apos] ∧
  (∀ env,starEach [.Name sf p1,je] env=(false,eval (.Name sf p1) env) :: starEach [je] env)∧(∀ env,starEach [je] env=(false,eval je env) :: starEach [] env) ∧
  (∀ env:Env,∃ pl,eval (.Call (.Attribute (.Name rk np) "__init__" ap) [.Name sf p1,je] [] cp) env=(do
   let ov ← eval (.Name rk np) env
   standAt ap.atName
   let (f,first) ← holding [ov] (getMethod ov "__init__" pl)
   callWith cp f first (backTo cp (starEach [.Name sf p1,je] env)) [])) ∧
  (∀ env,swapsWith (.Call (.Attribute (.Name rk np) "__init__" ap) [.Name sf p1,je] [] cp) none ep.line env=pure false) ∧
  (∀ env,swapsWith (.Name pa p3) (some (.Attribute (.Name sf p2) fld ap2)) apos.line env=pure false) ∧
  (∀ Y:Cx,Y.N=[sf,pa]→Y.env.scope=zab st→PE Y je (zl9 1))
end
end L2
namespace L2
open PySem PySem.Spec PyProof.Rows
section
variable {M:Model} {A:Around} {E:Value→Shared→Prop} {env:Env}
variable {nm q:Str} {C N:Addr} {bs bm:List Value} {hdct:Bool} {sn:List Str} {sub:List Value} {ab:Bool} {col:Option Bool} {dd:Option Addr} {k0 k1 k2 k3 k5:Option Value} {newId:String}
end
section
variable {prog:Program} {w:World} {A:Around} {E:Value→Shared→Prop} {s:Shared} {env:Env}
variable {nm q:Str} {C N:Addr} {bs bm bmB:List Value} {hdct:Bool} {sn:List Str} {sub:List Value} {ab:Bool} {col:Option Bool} {dd:Option Addr} {k0 k1 k2 k3 k5:Option Value} {B newId initId:String}
end
section
variable {X:Cx} {W:WX} {x:Str} {pos np cpos:Pos} {e:Expr} {t:TA}
end
end L2
namespace L2
open PySem PySem.Spec PyProof.Rows Builtin Builtin.ObjectAttr
structure XAt (K:PySem.W.Frag) (D:Addr) (fld:Str):Prop where
 ga:PySem.W.findIn K (.ref D) "__getattribute__" = some (some (.builtin "BaseException.__getattribute__"))
 gx:PySem.W.findIn K (.ref D) "__getattr__" = some none
 no:PySem.W.findIn K (.ref D) fld=some none
 be:PySem.W.subIn K (.ref D) (.type "BaseException")=some true
 hd:(PySem.W.clsIn K D).any (·.hasDict)=true
section
variable {prog:Program} {w:World} {A:Around} {E:Value→Shared→Prop} {h:Heap} {g:Array GenState} {d:Drawn} {t:Nat} {os:OsState} {K:PySem.W.Frag} {a D dx:Addr} {o:Obj} {fld:Str} {mA:Str→Option Value} {v:Value} {vs:Array Value}
end
section
variable {X:Cx} {x D dx:Addr} {oe:Obj} {fld:Str} {i:Nat} {n:Str} {np pos:Pos}
end
section
variable {X:Cx} {C:Addr} {i:Nat} {n y:Str} {np pos:Pos} {b₀:Stmt} {suite:List Stmt} {rest:List ExceptHandler} {ts th:TH}
end
end L2
namespace V2
open PySem PySem.Spec PyProof.Rows L2
section
variable {K:PySem.W.Frag} {G H:Hp} {ι:List Addr} {Ω:Sto} {d:Addr}
end
section
variable {X:Cx} {W:WX} {x fld:Str} {e:Expr} {np cpos pos:Pos} {fs:Ev→Mo (List A)}
end
def zmO (e:Exc) (d:Addr) (dx:Option Addr):Prop:=(e.fs=[]∧dx=none)∨(e.fs ≠ []∧dx=some d)
structure Cau (K:PySem.W.Frag) (oe:Obj) (d:Addr) (e:Exc):Prop where
 dat:∃ vs,oe.data = .fields vs
 cls:∃ E,PySem.W.nsIn K mainGlobals e.cls=some (some (.ref E))∧oe.cls = .ref E
 dic:zmO e d oe.dict
end V2
namespace M
open PySem V2
end M
namespace V2
open PySem PySem.Spec PyProof.Rows L2
def Itv (K:PySem.W.Frag) (a:Addr) (n:Nat):It :=
 ⟨fun i H=>∃ xs x,SqL K H a xs∧xs.length=n∧i < n∧xs[n - 1 - i]? = some x,fun i H x H'=>H'=H∧∀ xs,SqL K H a xs→xs[n - 1 - i]? = some x,fun i _=>n ≤ i⟩
theorem zhZ {P:Program} {w:World} {K:PySem.W.Frag} {tg:Expr} (a it:Addr) (n:Nat):Turn P w K tg (Itv K a n) [it] it (fun i h=>i ≤ n∧h.IsRevIter it a ((n:Int) - 1 - (i:Int))) where
 mem:=by simp
 obj:=fun i h st b hb=>by
  have e:b=it:=by simpa using hb
  subst e
  obtain ⟨_,o,e,c,d⟩:=st
  exact ⟨o,e,fun v z=>by rw [d] at z;cases z⟩
 keep:=fun i h h' st k=>⟨st.1,st.2.at fun o e=>k it (by simp) o e⟩
 item:=by
  intro X hP hw hK hc i pins s σ H E I hf st hg
  subst hP hw hK
  obtain ⟨xs,x,hq,hn,hi,hx⟩:=hg
  obtain ⟨its,rv,p,hz⟩:=I.list hq
  obtain ⟨u,hu,ru⟩:=rv.get hx
  obtain ⟨f0,f1,f2,f3,f4,f5⟩:=hf it (by simp)
  have e1:(n:Int) - 1 - (i:Int)=((n - 1 - i:Nat):Int):=by omega
  have st1:=st.2
  rw [e1] at st1
  refine wpAny_pyNext_rev_item st1 p.isList (x:=u) (by simpa using hu) fun h' st' sb=>?_
  have I1:Inv X pins σ H { s with heap:=h' }:=I.turned (t':=s.toks) (fun b o hb e=>(sb.2 b hb).trans e) f0 f1 f3 f4 f5
  have e2:((n - 1 - i:Nat):Int) - 1=(n:Int) - 1 - ((i + 1:Nat):Int):=by omega
  rw [e2] at st'
  obtain ⟨o,e,c,d⟩:=id st'
  exact ⟨u,rfl,zhR (s:={ s with heap:=h' }) e c d (by decide) ⟨x,H,I1,ru,⟨rfl,fun ys hy=>by rw [I.zdl hy hq];exact hx⟩,⟨hi,st'⟩,fun b hb=>(hf b hb).1⟩⟩
 done:=by
  intro X hP hw hK hc i pins s σ H E I hf st hg
  subst hP hw hK
  have hi:n ≤ i:=hg
  obtain ⟨f0,f1,f2,f3,f4,f5⟩:=hf it (by simp)
  have e1:(n:Int) - 1 - (i:Int) = -1:=by have:=st.1;omega
  have st1:=st.2
  rw [e1] at st1
  exact wpAny_pyNext_rev_end (I.ok.hd hc) st1 fun h' eb=>⟨rfl,I.turned (t':=s.toks) (fun b o hb e=>eb b o hb e) f0 f1 f3 f4 f5⟩
 self:=fun _ _ _ _ _ st h=>wpAny_pyIter_revIter st.2 h
section
variable {X:Cx} {W:WX} {pos:Pos}
theorem zkN {tg:Expr} {p:Pos} {l:Expr} {tl:TE} (hg:Gl X "reversed") (hm:X.mg "reversed" = none) (hl:PE X l tl) (hs:starEach [l] X.env=[(false,eval l X.env)]:=by rfl) :
  PI X tg (.Call (.Name "reversed" p) [l] [] pos) (fun σ H R=>tl σ H fun x H1=>∃ a xs,x = .ref a∧SqL X.K H1 a xs∧R (Itv X.K a xs.length) H1):=by
 intro pins s σ H R I h
 refine wpAny_Call_Name_kw (zdT I hg hm boot_reversed ?_)
 refine PyProof.Rows.callWith_type1 (thn (zdy hl ze7 hs pos pins s σ H (fun vs H1=>match vs with
  | [x]=>∃ a xs,x=V.ref a∧SqL X.K H1 a xs∧R (Itv X.K a xs.length) H1
  | _=>False) I h) fun us s1 ⟨vs,H1,I1,r1,q1⟩=>?_) hs rfl
 match vs,q1 with
 | [x],q1 =>
 obtain ⟨a,xs,e1,hq,q⟩:=q1
 obtain ⟨u,rfl,ru⟩:=vals1 r1
 subst e1
 cases ru
 obtain ⟨its,rv,pl,hz⟩:=I1.list hq
 have hlen:=rv.length
 refine call_reversed_list pl.isList ?_
 have I2:Inv X pins σ H1 { s1 with heap:=s1.heap.push (revObj a ((its.toArray.size:Int) - 1)) }:=I1.kept (t':=s1.toks) fun b o e=>Heap.get?_push_of_some _ e
 have st:(s1.heap.push (revObj a ((its.toArray.size:Int) - 1))).IsRevIter s1.heap.objs.size a ((xs.length:Int) - 1 - ((0:Nat):Int)):=by
  have e:((its.toArray.size:Int) - 1)=(xs.length:Int) - 1 - ((0:Nat):Int):=by rw [List.size_toArray,← hlen];simp
  rw [← e]
  exact ⟨_,Heap.get?_push_size _ rfl,rfl,rfl⟩
 refine wpAny_pyIter_revIter (s:={ s1 with heap:=s1.heap.push (revObj a ((its.toArray.size:Int) - 1)) }) st ?_
 refine ⟨s1.heap.objs.size,[s1.heap.objs.size],_,_,H1,rfl,I2,zhZ a _ xs.length,⟨Nat.zero_le _,st⟩,fun b hb=>?_,q⟩
 have e:b=s1.heap.objs.size:=by simpa using hb
 subst e
 exact I1.fpOk (Nat.le_refl _) (I1.hok.fresh (Nat.le_refl _))
def zeV (a:A) (ds:List A):Src:=⟨ds.reverse,fun Ω=>zaj Ω a=some ds⟩
@[simp] def zhI (f:Ev→Mo A):Ev→Mo Src:=fun ρ=>mb (f ρ) fun a Ω=>match zaj Ω a with
 | some ds=>some (.ok (zeV a ds),Ω)
 | none=>none
theorem zjI {K:PySem.W.Frag} {G:Hp} {ι:List Addr} {p:Addr} {a:A} {ds:List A} (d:Den K G ι (.ref p) a):ItV K G ι (Itv K p ds.length) (zeV a ds):=by
 have key:∀ G' ι' Ω' H',Ext G ι G' ι'→Wd K G' ι' Ω' H'→zaj Ω' a=some ds→∃ xs,SqL K H' p xs∧DenL K G' ι' xs ds:=fun G' ι' Ω' H' e w h=>by
  obtain ⟨q,xs,h1,h2,h3⟩:=zaD w (d.ext e) h
  cases h1
  exact ⟨xs,h2,h3⟩
 refine ⟨fun G' ι' Ω' H' e w h i hi=>?_,fun G' ι' Ω' H' e w h i hi=>?_,fun G' ι' Ω' H' e w h i x H2 y hy hd=>?_⟩
 ·obtain ⟨xs,h2,h3⟩:=key G' ι' Ω' H' e w h
  have hi':i < ds.length:=by simpa [zeV] using hi
  have hl:ds.length - 1 - i < xs.length:=by rw [h3.length];omega
  exact ⟨xs,xs[ds.length - 1 - i],h2,h3.length,hi',List.getElem?_eq_getElem hl⟩
 ·show ds.length ≤ i
  simpa [zeV] using hi
 ·obtain ⟨xs,h2,h3⟩:=key G' ι' Ω' H' e w h
  obtain ⟨e1,e2⟩:=hd
  subst e1
  have hy':ds.reverse[i]? = some y:=hy
  have hi':i < ds.length:=by have:=(List.getElem?_eq_some_iff.mp hy').1;simpa using this
  rw [List.getElem?_reverse hi'] at hy'
  obtain ⟨z,q1,q2⟩:=h3.get hy'
  rw [e2 xs h2] at q1
  cases q1
  exact ⟨G',Ext.refl _ _,w,q2⟩
theorem zlw {tg l:Expr} {p:Pos} {fe:Ev→Mo A} (hg:Gl X "reversed") (hm:X.mg "reversed" = none) (h:VE X W l fe) (hs:starEach [l] X.env=[(false,eval l X.env)]:=by rfl):VI X W tg (.Call (.Name "reversed" p) [l] [] pos) (zhI fe):=by
 obtain ⟨t,p,s⟩:=h
 refine ⟨_,zkN hg hm p hs,fun G ι Ω H σ ρ R w r h=>?_⟩
 refine s G ι Ω H σ ρ _ w r (Post.mb h fun a Ω1 v H1 G1 ι1 x1 w1 d1 h1=>?_)
 cases e:zaj Ω1 a with
 | none=>simp only [e] at h1;exact False.elim h1
 | some ds =>
  simp only [e] at h1
  obtain ⟨q,xs,h2,h3,h4⟩:=zaD w1 d1 e
  subst h2
  refine ⟨q,xs,rfl,h3,?_⟩
  rw [h4.length]
  exact h1 _ H1 G1 ι1 (Ext.refl _ _) w1 (zjI d1)
end
end V2
namespace V2
open PySem PySem.Spec PyProof.Rows L2
section
variable {X:Cx} {W:WX} {a b c d:Expr} {ta tb tc td:TE} {fa fb fc fd:Ev→Mo A} {pos:Pos}
def zlH (_ j:Int):Prop:=0 < j∧j < 1152921504606846976
instance (i j:Int):Decidable (zlH i j):=by unfold zlH;infer_instance
end
end V2
namespace M
open PySem V2
end M
namespace PySem
section
variable {prog:Program} {w:World} {A:Around} {E:Value→Shared→Prop} {s:Shared}
end
set_option maxRecDepth 100000
section
variable {prog:Program} {w:World} {A:Around} {E:Value→Shared→Prop} {s:Shared}
end
end PySem
namespace V2
open PySem PySem.Spec PyProof.Rows L2
section
variable {X:Cx} {W:WX}
end
section
variable {K:PySem.W.Frag}
end
section
variable {X:Cx} {W:WX}
end
end V2
namespace V2
open PySem PySem.Spec PyProof.Rows L2
section
variable {X:Cx} {W:WX}
end
end V2
namespace V2
open PySem PySem.Spec PyProof.Rows L2
section
variable {X:Cx} {W:WX} {pos:Pos}
end
end V2
namespace M
open PySem V2
end M
namespace M
open PySem V2
end M
namespace L2
open PySem PySem.Spec PyProof.Rows
def zmQ (p:Addr) (oe:Obj) (outer:List Env) (s:Shared) (H:Hp):Prop:=s.heap.get? p=some oe∧H p=none∧p ∉ frs outer∧∀ v,oe.data ≠ .cell v
def RunP (P:Program) (w:World) (K:PySem.W.Frag) (mg:Str→Option Value) (base:Heap) (k:Nat) (f:Addr) (fd:FuncData) (ps:List Str) (p:Addr) (oe:Obj) (sp:Sp):Prop :=
 ∀ (A:Around) (outer:List Env) (s:Shared) (H:Hp) (args:Args) (us:List Value) (vs:List V) (Q:VK) (E:XK),Room k A→Env0 P w K mg base A outer s H→BindsTo s fd args (ps.zip us)→Vals vs us→zmQ p oe outer s H→sp vs H Q E →
  codeAny (model P w) (A.mark (some (.ref p))) (.call (.ref f) args) (CR CX0 outer P w H s Q E) s
section
variable {P:Program} {w:World} {K:PySem.W.Frag} {mg:Str→Option Value} {base:Heap} {p:Addr} {oe:Obj}
set_option maxRecDepth 100000 in
theorem zl2 {k:Nat} {f:Addr} {name qual:Str} {params:Arguments} {body:List Stmt} {scope:Scope} {dV kV doc pm cdv ct oc:Value} {an od:Option Addr}
  {osl:Array (Option Value)} {N ps:List Str} {sp:Sp} (lk:K.lookup f=some ⟨oc,od, .func (PySem.W.fnOf name qual params body scope dV kV doc pm an cdv ct),osl⟩) (hcd:PySem.W.codeIn K cdv qual=true) (S:zaw N ps scope)
  (len:∀ vs H Q E,sp vs H Q E→vs.length=ps.length)
  (hbody:∀ (A:Around) (outer:List Env) (s:Shared) (H:Hp) (vs:List V) (Q:VK) (E:XK),Room k (A.deeper (envOfC qual scope s.heap.objs.size f cdv))→sp vs H Q E →
   ∃ t,PSs ((cxOf CX0 P w K mg base N qual scope f cdv A outer s H E).zcz p oe) body t∧t { nx:=fun _ H'=>Q .non H',rt:=Q } (start N vs) H) :
  RunP P w K mg base (k + 1) f (PySem.W.fnOf name qual params body scope dV kV doc pm an cdv ct) ps p oe sp:=by
 intro A outer s H args us vs Q E hr e0 hb r pin hsp
 have hl:=len _ _ _ _ hsp
 have KX:K.In s.heap:=e0.mod.kin.keeps fun b o e=>(e0.bs b o e).1
 have lim:s.heap.NoLimit:=e0.mod.nolimit.keeps fun b o e=>(e0.bs b o e).1
 have hkind:∀ y ∈ ps.zip us,scope.names.lookup y.1=some .local∨(scope.names.lookup y.1=some .cell∧((cellsFrom (s.heap.objs.size + 1) scope.names []).lookup y.1).isSome=true):=fun ⟨n,v⟩ hy=>by
  rcases S.par n (List.of_mem_zip hy).1 with q | q
  ·exact .inl q
  ·exact .inr ⟨q,PySem.W.cellsFrom_some _ _ _ (.inl q)⟩
 refine codeAny_call_function (A:=A.mark (some (.ref p))) hr.depth (KX _ _ lk) rfl S.co S.gen rfl (PySem.W.codeRec_of KX hcd) (hb _ _ _ _ ?_)
 refine wpAny_newFunctionEnv_cells S.kind hkind fun env he s1 x=>?_
 subst he
 refine ⟨lim.keeps x.toInCall.keep,codeAny_func ?_⟩
 obtain ⟨t,ht,hq⟩:=hbody A outer s H vs Q E (hr.deeper _) hsp
 have I0:Inv (cxOf CX0 P w K mg base N qual scope f cdv A outer s H E) [] (start N vs) H s1:=zeN S hr.hd e0 hl r x
 obtain ⟨p1,p2,p3,p4⟩:=pin
 have hlt:p < s.heap.objs.size:=by
  rcases Nat.lt_or_ge p s.heap.objs.size with h | h
  ·exact h
  ·exfalso
   first | (rw [Heap.get?_none_of_ge h] at p1;cases p1) | (simp [Heap.get?,h] at p1) | (unfold Heap.get? at p1;simp [h] at p1)
 have I:Inv ((cxOf CX0 P w K mg base N qual scope f cdv A outer s H E).zcz p oe) [] (start N vs) H s1:=I0.zcz ⟨x.toInCall.keep _ _ p1,p2,fun z=>absurd hlt (by rw [z];exact Nat.lt_irrefl _),p3,p4⟩
 refine wpAny_mono (ht [] s1 (start N vs) H _ I hq) (fun fl s' hs=>?_) fun e s' hs=>hs.elim
 have fin:∀ {σ':St} {H':Hp} {v:V} {u:Value},Inv ((cxOf CX0 P w K mg base N qual scope f cdv A outer s H E).zcz p oe) [] σ' H' s'→RelV v u→Q v H'→CE outer P w H s Q u s' :=
  fun {σ' H' v u} J rv q=>⟨v,H',J.os,J.bare,J.base,J.hok,rv,q⟩
 cases fl with
 | ret u =>
  obtain ⟨v,σ',H',J,rv,q⟩:=hs
  exact fin J rv q
 | next =>
  obtain ⟨σ',H',J,q⟩:=hs
  exact fin (v:=V.non) (u:=Value.none) J rfl q
 | brk =>
  obtain ⟨_,_,_,q⟩:=hs
  exact False.elim q
 | cont =>
  obtain ⟨_,_,_,q⟩:=hs
  exact False.elim q
end
end L2
namespace V2
open PySem PySem.Spec PyProof.Rows L2
def DefP (P:Program) (w:World) (K:PySem.W.Frag) (mg:Str→Option Value) (base:Heap) (x:Str) (k:Nat) (ps:List Str) (p:Addr) (oe:Obj) (F:List A→Mo A):Prop :=
 ∃ f fd,RunP P w K mg base k f fd ps p oe (fun vs H Q _=>spV K ps.length F vs H Q fun _ _ _=>False)∧mg x=some (.ref f)∧PySem.W.keepIn K (.ref f)=true∧Binds K fd ps []
theorem DefP.of {P:Program} {w:World} {K:PySem.W.Frag} {mg:Str→Option Value} {base:Heap} {p:Addr} {oe:Obj} {x:Str} {st:Stmt} {N ps:List Str} {k:Nat} {b:MS} (h:HasFn K mg x st) (S:zaw N ps (zab st))
  (bind:∀ (kV doc pm:Value) (an:Option Addr) (cdv ct:Value) (us:List Value),us.length=ps.length→bindArgs (PySem.W.fnOf x x (zax st) (zal st) (zab st) .none kV doc pm an cdv ct) ⟨us,[]⟩ = pure (ps.zip us))
  (hbody:∀ (f:Addr) (cdv:Value) (A:Around) (outer:List Env) (s:Shared) (H:Hp) (E:XK),Room k (A.deeper (envOfC x (zab st) s.heap.objs.size f cdv)) →
   VSs ((cxOf CX0 P w K mg base N x (zab st) f cdv A outer s H E).zcz p oe) noW (zal st) b):DefP P w K mg base x (k + 1) ps p oe (fnF N.length b):=by
 obtain ⟨f,fd,hm,F⟩:=h.ex
 refine ⟨f,fd,?_,hm,F.kp,F.binds bind⟩
 obtain ⟨oc,od,kV,doc,pm,an,cdv,ct,osl,rfl,lk,hcd⟩:=F.ex
 refine zl2 lk hcd S (fun vs H Q E h=>h.1) fun A outer s H vs Q E hr hsp=>?_
 obtain ⟨t,p,q⟩:=hbody f cdv A outer s H E hr
 exact ⟨t,p,zfh (E:=fun _ _ _=>False) q hsp⟩
section
variable {X:Cx} {W:WX} {x:Str} {e:Expr} {es:List Expr} {np pos:Pos} {fs:Ev→Mo (List A)} {p:Addr} {oe:Obj}
end
end V2
namespace V2
open PySem PySem.Spec PyProof.Rows L2
end V2
namespace M
open PySem V2
end M
namespace V2
open PySem PySem.Spec PyProof.Rows L2
end V2
namespace V2
open PySem PySem.Spec PyProof.Rows L2
end V2
namespace V2
open PySem PySem.Spec PyProof.Rows L2
section
variable {X:Cx} {W:WX} {st:List Stmt} {g:MS}
end
end V2
namespace M
open PySem V2
end M
namespace M
open PySem V2
noncomputable def zam:MS :=
 (sSeq (sIf (zaW (vOp gEq (vVar 1) (cI 0)))
   (sRet (vOp (gMod) (vVar 0) (cI 7)))
   sNx)
  (sSeq (sIf (zaW (vOp gEq (vVar 1) (cI 1)))
   (sRet (vOp (gSub) (vOp (gMod) (vVar 0) (cI 100)) (cI 50)))
   sNx)
  (sSeq (sIf (zaW (vOp gEq (vVar 1) (cI 2)))
   (sRet (vOp (gSub) (vOp (gMod) (vOp (gMul) (vOp (gMul) (vVar 0) (vVar 0)) (cI 48271)) (vOp (gAdd false) (vOp (gMul) (cI 2) (vOp (gPow) (cI 10) (cI 18))) (cI 1))) (vOp (gPow) (cI 10) (cI 18))))
   sNx)
  (sSeq (sIf (zaW (vOp gEq (vVar 1) (cI 3)))
   (sRet (vOp gIx (vLst false (zac (vOp (gAdd false) (vOp (gPow) (cI 10) (cI 59)) (vVar 0)) (zac (vOp (gSub) (vOp (gSub) (cI 0) (vOp (gPow) (cI 10) (cI 59))) (vVar 0)) (zac (vOp (gSub) (vOp (gPow) (cI 10) (cI 60)) (cI 1)) (zac (vOp (gSub) (cI 1) (vOp (gPow) (cI 10) (cI 60))) a0))))) (vOp (gMod) (vVar 0) (cI 4))))
   sNx)
  (sRet (vOp gIx (vLst false (zac (cI 5) (zac (vOp (gSub) (cI 0) (cI 5)) (zac (cI 0) a0)))) (vOp (gDiv) (vOp (gMod) (vVar 0) (cI 30)) (cI 14))))))))
noncomputable def zah:List A→Mo A:=fnF 2 zam
end M
namespace V2
open PySem PySem.Spec PyProof.Rows L2
def putD {α:Type} (f:Str) (v:α):List (Str × α)→List (Str × α)
 | []=>[(f,v)]
 | (g,x) :: r=>if g=f then (g,v) :: r else (g,x) :: putD f v r
@[simp] def Fd.cell:Fd→Option Cell
 | .lst ds=>some (.lst ds)
 | .dct kvs=>some (.dct kvs)
 | .val _=>none
theorem zc2 {α:Type} {f:Str}:∀ {l:List (Str × α)} {x:α},l.lookup f=some x→∃ i,l[i]? = some (f,x)∧∀ y,putD f y l=l.set i (f,y)
 | [],_,h=>by simp at h
 | (g,z) :: r,x,h=>by
  by_cases e:g=f
  ·subst e
   simp [List.lookup] at h
   subst h
   exact ⟨0,rfl,fun y=>by simp [putD]⟩
  ·have hb:(f == g)=false:=beq_eq_false_iff_ne.mpr (Ne.symm e)
   simp only [List.lookup,hb] at h
   obtain ⟨i,h1,h2⟩:=zc2 h
   exact ⟨i + 1,by simpa using h1,fun y=>by simp [putD,e,h2 y]⟩
theorem za0 {α:Type} {f g:Str} {v:α}:∀ {l:List (Str × α)},(putD f v l).lookup g=if g=f then some v else l.lookup g
 | []=>by
  by_cases e:g=f
  ·subst e;simp [putD]
  ·have hb:(g == f)=false:=beq_eq_false_iff_ne.mpr e
   simp [putD,List.lookup,hb,e]
 | (k,x) :: r=>by
  have ih:=za0 (f:=f) (g:=g) (v:=v) (l:=r)
  by_cases h:k=f
  ·subst h
   by_cases e:g=k
   ·subst e;simp [putD]
   ·have hb:(g == k)=false:=beq_eq_false_iff_ne.mpr e
    simp [putD,List.lookup,hb,e]
  ·by_cases e:g=k
   ·subst e;simp [putD,h]
   ·have hb:(g == k)=false:=beq_eq_false_iff_ne.mpr e
    simp only [putD,if_neg h,List.lookup,hb]
    exact ih
theorem za4 {α:Type} {f:Str} {v w:α}:∀ {l:List (Str × α)},putD f w (putD f v l)=putD f w l
 | []=>by simp [putD]
 | (k,x) :: r=>by
  by_cases h:k=f
  ·simp [putD,h]
  ·simp [putD,h,za4 (l:=r)]
theorem zeH {α:Type} {f:Str} {v:α}:∀ {l:List (Str × α)},l.lookup f=some v→putD f v l=l
 | [],h=>by simp at h
 | (k,x) :: r,h=>by
  by_cases e:k=f
  ·subst e
   simp [List.lookup] at h
   subst h
   simp [putD]
  ·have hb:(f == k)=false:=beq_eq_false_iff_ne.mpr (Ne.symm e)
   simp only [List.lookup,hb] at h
   simp [putD,e,zeH h]
section
variable {K:PySem.W.Frag} {G H:Hp} {ι:List Addr} {Ω:Sto}
theorem zaX:∀ {ws:List (Str × V)} {fs:List (Str × Fd)},zbo K G ι H ws fs↔ws.length=fs.length∧∀ (i:Nat) (h:Str) (v:V) (g:Str) (fd:Fd),ws[i]? = some (h,v)→fs[i]? = some (g,fd)→h=g∧FdOk K G ι H v fd
 | [],[]=>⟨fun _=>⟨rfl,fun i h v g fd q=>by simp at q⟩,fun _=>trivial⟩
 | [],_ :: _=>⟨fun h=>h.elim,fun h=>by simp at h⟩
 | _ :: _,[]=>⟨fun h=>h.elim,fun h=>by simp at h⟩
 | (f,v) :: ws,(g,d) :: fs=>by
  constructor
  ·rintro ⟨h1,h2,h3⟩
   obtain ⟨q1,q2⟩:=zaX.mp h3
   refine ⟨by simp [q1],fun i h v' g' fd a b=>?_⟩
   cases i with
   | zero=>simp at a b;obtain ⟨rfl,rfl⟩:=a;obtain ⟨rfl,rfl⟩:=b;exact ⟨h1,h2⟩
   | succ i=>exact q2 i h v' g' fd (by simpa using a) (by simpa using b)
  ·rintro ⟨q1,q2⟩
   obtain ⟨h1,h2⟩:=q2 0 f v g d rfl rfl
   exact ⟨h1,h2,zaX.mpr ⟨by simpa using q1,fun i h v' g' fd a b=>q2 (i + 1) h v' g' fd (by simpa using a) (by simpa using b)⟩⟩
theorem zbo.look {ws:List (Str × V)} {fs:List (Str × Fd)} {f:Str} {fd:Fd} (h:zbo K G ι H ws fs) (l:fs.lookup f=some fd):∃ v,ws.lookup f=some v∧FdOk K G ι H v fd:=by
 induction fs generalizing ws with
 | nil=>simp at l
 | cons p fs ih =>
  obtain ⟨g,d⟩:=p
  cases ws with
  | nil=>exact h.elim
  | cons q ws =>
   obtain ⟨g',v⟩:=q
   obtain ⟨e,h2,h3⟩:=h
   subst e
   by_cases hb:(f == g')=true
   ·simp only [List.lookup,hb] at l ⊢
    cases l
    exact ⟨v,rfl,h2⟩
   ·have hb:(f == g')=false:=by simpa using hb
    simp only [List.lookup,hb] at l ⊢
    exact ih h3 l
theorem zbo.zkT {ws:List (Str × V)} {fs:List (Str × Fd)} {f:Str} (h:zbo K G ι H ws fs) (l:fs.lookup f=none):ws.lookup f=none:=by
 induction fs generalizing ws with
 | nil =>
  cases ws with
  | nil=>rfl
  | cons q ws=>exact h.elim
 | cons p fs ih =>
  obtain ⟨g,d⟩:=p
  cases ws with
  | nil=>exact h.elim
  | cons q ws =>
   obtain ⟨g',v⟩:=q
   obtain ⟨e,h2,h3⟩:=h
   subst e
   by_cases hb:(f == g')=true
   ·simp only [List.lookup,hb] at l;cases l
   ·have hb:(f == g')=false:=by simpa using hb
    simp only [List.lookup,hb] at l ⊢
    exact ih h3 l
theorem zbo.put {ws:List (Str × V)} {fs:List (Str × Fd)} {f:Str} {fd:Fd} {v:V} (h:zbo K G ι H ws fs) (d:FdOk K G ι H v fd):zbo K G ι H (putF f v ws) (putD f fd fs):=by
 induction fs generalizing ws with
 | nil =>
  cases ws with
  | nil=>exact ⟨rfl,d,trivial⟩
  | cons q ws=>exact h.elim
 | cons p fs ih =>
  obtain ⟨g,x⟩:=p
  cases ws with
  | nil=>exact h.elim
  | cons q ws =>
   obtain ⟨g',v'⟩:=q
   obtain ⟨e,h2,h3⟩:=h
   subst e
   by_cases hg:g'=f
   ·simp only [putF,putD,if_pos hg];exact ⟨rfl,d,h3⟩
   ·simp only [putF,putD,if_neg hg];exact ⟨rfl,h2,ih h3⟩
theorem zbo.len {ws:List (Str × V)} {fs:List (Str × Fd)} (h:zbo K G ι H ws fs):ws.length=fs.length:=(zaX.mp h).1
theorem FdOk.ownC {v:V} {fd:Fd} {c:Cell} (h:FdOk K G ι H v fd) (hc:fd.cell=some c):∃ b,v = .ref b∧b ∉ ι∧(∃ o,H b=some o)∧zbL K G ι H b c:=by
 cases fd with
 | val a=>cases hc
 | lst ds=>cases hc;obtain ⟨b,xs,h1,h2,h3,h4,h5⟩:=h;exact ⟨b,h1,h3,⟨_,h4⟩,h2,xs,h4,h5⟩
 | dct kvs=>cases hc;obtain ⟨b,ws,h1,h2,h3,h4,h5,h6⟩:=h;exact ⟨b,h1,h3,⟨_,h4⟩,h2,ws,h4,h5,h6⟩
theorem FdOk.ofC {b:Addr} {fd:Fd} {c:Cell} (hc:fd.cell=some c) (hb:b ∉ ι) (h:zbL K G ι H b c):FdOk K G ι H (.ref b) fd:=by
 cases fd with
 | val a=>cases hc
 | lst ds=>cases hc;obtain ⟨h1,xs,h2,h3⟩:=h;exact ⟨b,xs,rfl,h1,hb,h2,h3⟩
 | dct kvs=>cases hc;obtain ⟨h1,ws,h2,h3,h4⟩:=h;exact ⟨b,ws,rfl,h1,hb,h2,h3,h4⟩
theorem Fd.zhT {fd:Fd} {c:Cell} (hc:fd.cell=some c):fd.own=true:=by cases fd <;> first | rfl | cases hc
theorem Fd.zd5 {fd:Fd} {c:Cell} (hc:fd.cell=some c):c.noOwn=true:=by cases fd <;> cases hc <;> rfl
theorem FdOk.lend {b:Addr} {v:V} {fd:Fd} (h:FdOk K G ι H v fd) (hb:fd.own=true→v ≠ .ref b):FdOk K G (ι ++ [b]) H v fd:=by
 cases fd with
 | val a=>exact Den.ext (Ext.cell b) h
 | lst ds =>
  obtain ⟨b',xs,h1,h2,h3,h4,h5⟩:=h
  exact ⟨b',xs,h1,h2,by simp;exact ⟨h3,fun e=>hb rfl (by rw [h1,e])⟩,h4,h5.ext (Ext.cell b)⟩
 | dct kvs =>
  obtain ⟨b',ws,h1,h2,h3,h4,h5,h6⟩:=h
  exact ⟨b',ws,h1,h2,by simp;exact ⟨h3,fun e=>hb rfl (by rw [h1,e])⟩,h4,h5,h6.ext (Ext.cell b)⟩
theorem Wd.unfold {s:Nat} {cls f:Str} {fs:List (Str × Fd)} {fd:Fd} {c:Cell} (w:Wd K G ι Ω H) (hs:Ω[s]? = some (.ins cls fs)) (hf:fs.lookup f=some fd) (hc:fd.cell=some c) :
  ∃ b,Wd K G (ι ++ [b]) (Ω.set s (.ins cls (putD f (.val (.cel Ω.length)) fs)) ++ [c]) H:=by
 obtain ⟨a,ha⟩:=w.addr hs
 obtain ⟨g,C,dx,ws,h0,h1,h2⟩:=w.cel s _ a hs ha
 obtain ⟨i0,e1,e2⟩:=zc2 hf
 obtain ⟨q1,q2⟩:=zaX.mp h2
 have hi0:i0 < fs.length:=(List.getElem?_eq_some_iff.mp e1).1
 obtain ⟨⟨k0,v0⟩,e3⟩ : ∃ p,ws[i0]? = some p:=⟨ws[i0]'(by omega),List.getElem?_eq_getElem _⟩
 obtain ⟨rfl,o0⟩:=q2 i0 k0 v0 f fd e3 e1
 obtain ⟨b,rfl,hb,⟨o,ho⟩,hC⟩:=o0.ownC hc
 have own0:zbn H ι Ω s i0 b:=⟨a,cls,fs,C,dx,ws,_,_,fd,ha,hs,h1,e1,Fd.zhT hc,e3⟩
 have hsl:s < Ω.length:=(List.getElem?_eq_some_iff.mp hs).1
 have hι:∀ k,k < Ω.length→(ι ++ [b])[k]? = ι[k]?:=fun k hk=>List.getElem?_append_left (by rw [w.len];exact hk)
 have hΩ:∀ k,k < Ω.length→(Ω.set s (.ins cls (putD k0 (.val (.cel Ω.length)) fs)) ++ [c])[k]? = (Ω.set s (.ins cls (putD k0 (.val (.cel Ω.length)) fs)))[k]?:=fun k hk=>List.getElem?_append_left (by simpa using hk)
 refine ⟨b,w.sub,?_,by simp [w.len],fun x hx=>?_,fun k c' a' z1 z2=>?_,fun b' k i k' i' z1 z2=>?_⟩
 ·rw [List.nodup_append]
  exact ⟨w.inj,by simp,fun x hx y hy=>by simp at hy;subst hy;exact fun e=>hb (e ▸ hx)⟩
 ·rcases List.mem_append.mp hx with h | h
  ·exact w.live x h
  ·simp at h;subst h;exact ⟨o,ho⟩
 ·by_cases hk:k < Ω.length
  ·rw [hι k hk] at z2
   rw [hΩ k hk] at z1
   by_cases hks:k=s
   ·subst hks
    rw [List.getElem?_set_self hsl] at z1
    cases z1
    rw [ha] at z2;cases z2
    refine ⟨g,C,dx,ws,h0,h1,zaX.mpr ⟨by rw [e2];simpa using q1,fun j h v g' fd' y1 y2=>?_⟩⟩
    rw [e2] at y2
    by_cases hj:j=i0
    ·subst hj
     rw [List.getElem?_set_self hi0] at y2
     cases y2
     rw [e3] at y1;cases y1
     refine ⟨rfl,?_⟩
     simp only [FdOk,Den]
     exact ⟨b,rfl,by rw [← w.len];simp⟩
    ·rw [List.getElem?_set_ne (Ne.symm hj)] at y2
     obtain ⟨r1,r2⟩:=q2 j h v g' fd' y1 y2
     refine ⟨r1,r2.lend fun ow ev=>hj ?_⟩
     subst ev
     exact (w.sep b _ j _ i0 ⟨a,cls,fs,C,dx,ws,_,_,fd',ha,hs,h1,y2,ow,y1⟩ own0).2
   ·rw [List.getElem?_set_ne (Ne.symm hks)] at z1
    have q:=w.cel k c' a' z1 z2
    cases c' with
    | lst ds=>obtain ⟨y1,xs,y2,y3⟩:=q;exact ⟨y1,xs,y2,y3.ext (Ext.cell b)⟩
    | dct kvs=>obtain ⟨y1,ws',y2,y3,y4⟩:=q;exact ⟨y1,ws',y2,y3,y4.ext (Ext.cell b)⟩
    | ins cls' fs' =>
     obtain ⟨y0,C',dx',ws',y1,y2,y3⟩:=q
     obtain ⟨p1,p2⟩:=zaX.mp y3
     refine ⟨y0,C',dx',ws',y1,y2,zaX.mpr ⟨p1,fun j h v g' fd' y4 y5=>?_⟩⟩
     obtain ⟨r1,r2⟩:=p2 j h v g' fd' y4 y5
     refine ⟨r1,r2.lend fun ow ev=>hks ?_⟩
     subst ev
     exact (w.sep b k j s i0 ⟨a',cls',fs',C',dx',ws',_,_,fd',z2,z1,y2,y5,ow,y4⟩ own0).1
    | tab x pos qual=>exact q
    | dead=>trivial
  ·have hk2:k=Ω.length:=by
    have:=(List.getElem?_eq_some_iff.mp z1).1
    simp at this;omega
   subst hk2
   rw [← w.len] at z2
   simp at z2
   subst z2
   simp at z1
   subst z1
   cases fd with
   | val x=>cases hc
   | lst ds=>cases hc;obtain ⟨y1,xs,y2,y3⟩:=hC;exact ⟨y1,xs,y2,y3.ext (Ext.cell b)⟩
   | dct kvs=>cases hc;obtain ⟨y1,ws',y2,y3,y4⟩:=hC;exact ⟨y1,ws',y2,y3,y4.ext (Ext.cell b)⟩
 ·have back:∀ {k i},zbn H (ι ++ [b]) (Ω.set s (.ins cls (putD k0 (.val (.cel Ω.length)) fs)) ++ [c]) k i b'→zbn H ι Ω k i b':=fun {k i} h=>by
   have h0':=h
   obtain ⟨a',cls',fs',C',dx',ws',g',h',fd',y1,y2,y3,y4,y5,y6⟩:=h
   by_cases hk:k < Ω.length
   ·rw [hι k hk] at y1
    rw [hΩ k hk] at y2
    by_cases hks:k=s
    ·subst hks
     rw [List.getElem?_set_self hsl] at y2
     cases y2
     rw [ha] at y1;cases y1
     rw [h1] at y3;cases y3
     rw [e2] at y4
     by_cases hj:i=i0
     ·subst hj
      rw [List.getElem?_set_self hi0] at y4
      cases y4
      cases y5
     ·rw [List.getElem?_set_ne (Ne.symm hj)] at y4
      exact ⟨a,_,fs,C,dx,ws,g',h',fd',ha,hs,h1,y4,y5,y6⟩
    ·rw [List.getElem?_set_ne (Ne.symm hks)] at y2
     exact ⟨a',cls',fs',C',dx',ws',g',h',fd',y1,y2,y3,y4,y5,y6⟩
   ·have hk2:k=Ω.length:=by
     have:=(List.getElem?_eq_some_iff.mp y2).1
     simp at this;omega
    subst hk2
    exact (h0'.no (by simp) (Fd.zd5 hc)).elim
  exact w.sep b' k i k' i' (back z1) (back z2)
theorem ClFs.get {n:Nat}:∀ {fs:List (Str × Fd)} {i:Nat} {p:Str × Fd},ClFs n fs→fs[i]? = some p→ClF n p.2
 | [],_,_,_,h=>by simp at h
 | _ :: _,0,_,c,h=>by simp at h;subst h;exact c.1
 | _ :: fs,i + 1,_,c,h=>ClFs.get (fs:=fs) c.2 (by simpa using h)
theorem Wd.fold {s:Nat} {cls f:Str} {fs:List (Str × Fd)} {fd:Fd} {c:Cell} {Ωa:Sto} (w:Wd K G ι (Ωa ++ [c]) H) (hs:Ωa[s]? = some (.ins cls fs)) (hf:fs.lookup f=some (.val (.cel Ωa.length))) (hc:fd.cell=some c)
  (hk:∀ k c',k ≠ s→Ωa[k]? = some c'→ClC Ωa.length c') (hfs:ClFs Ωa.length (putD f fd fs)):Wd K G (ι.take Ωa.length) (Ωa.set s (.ins cls (putD f fd fs))) H:=by
 have hsl:s < Ωa.length:=(List.getElem?_eq_some_iff.mp hs).1
 have hlen:ι.length=Ωa.length + 1:=by rw [w.len];simp
 have hΩ:∀ k,k < Ωa.length→(Ωa ++ [c])[k]? = Ωa[k]?:=fun k hk=>List.getElem?_append_left hk
 have hι:∀ k,k < Ωa.length→(ι.take Ωa.length)[k]? = ι[k]?:=fun k hk=>by rw [List.getElem?_take,if_pos hk]
 obtain ⟨b,hb⟩ : ∃ b,ι[Ωa.length]? = some b:=⟨ι[Ωa.length]'(by omega),List.getElem?_eq_getElem _⟩
 have eι:ι=ι.take Ωa.length ++ [b]:=by
  have:=List.take_append_getElem (l:=ι) (i:=Ωa.length) (by omega)
  rw [List.getElem?_eq_getElem (show Ωa.length < ι.length by omega)] at hb
  cases hb
  rw [List.take_append_getElem,List.take_of_length_le (by omega)]
 have hbn:b ∉ ι.take Ωa.length:=fun z=>by
  have nd:=w.inj
  rw [eι,List.nodup_append] at nd
  exact nd.2.2 b z b (by simp) rfl
 have sub:∀ x,x ∉ ι→x ∉ ι.take Ωa.length:=fun x hx z=>hx (List.mem_of_mem_take z)
 have ha:∃ a,ι[s]? = some a:=w.addr (show (Ωa ++ [c])[s]? = some (.ins cls fs) by rw [hΩ s hsl];exact hs)
 obtain ⟨a,ha⟩:=ha
 obtain ⟨g,C,dx,ws,h0,h1,h2⟩:=w.cel s _ a (by rw [hΩ s hsl];exact hs) ha
 obtain ⟨i0,e1,e2⟩:=zc2 hf
 obtain ⟨q1,q2⟩:=zaX.mp h2
 have hi0:i0 < fs.length:=(List.getElem?_eq_some_iff.mp e1).1
 have hcb:=w.cel Ωa.length c b (by simp) hb
 refine ⟨w.sub,w.inj.sublist (List.take_sublist ..),by simp [hlen],fun x hx=>w.live x (List.mem_of_mem_take hx),fun k c' a' z1 z2=>?_,fun b' k i k' i' z1 z2=>?_⟩
 ·have hkl:k < Ωa.length:=by simpa using (List.getElem?_eq_some_iff.mp z1).1
  rw [hι k hkl] at z2
  by_cases hks:k=s
  ·subst hks
   rw [List.getElem?_set_self hsl] at z1
   cases z1
   rw [ha] at z2;cases z2
   refine ⟨g,C,dx,ws,h0,h1,zaX.mpr ⟨by rw [e2];simpa using q1,fun j h v g' fd' y1 y2=>?_⟩⟩
   have cl':ClF Ωa.length fd':=hfs.get y2
   rw [e2] at y2
   by_cases hj:j=i0
   ·subst hj
    rw [List.getElem?_set_self hi0] at y2
    cases y2
    obtain ⟨r1,r2⟩:=q2 j h v _ _ y1 e1
    refine ⟨r1,?_⟩
    simp only [FdOk,Den] at r2
    obtain ⟨b2,rfl,hb2⟩:=r2
    rw [hb] at hb2;cases hb2
    exact FdOk.ofC hc hbn (hcb.cut hι sub (by cases fd <;> cases hc <;> exact cl'))
   ·rw [List.getElem?_set_ne (Ne.symm hj)] at y2
    obtain ⟨r1,r2⟩:=q2 j h v g' fd' y1 y2
    exact ⟨r1,r2.cut hι sub cl'⟩
  ·rw [List.getElem?_set_ne (Ne.symm hks)] at z1
   exact (w.cel k c' a' (by rw [hΩ k hkl];exact z1) z2).cut hι sub (hk k c' hks z1)
 ·
  have back:∀ {k i},zbn H (ι.take Ωa.length) (Ωa.set s (.ins cls (putD f fd fs))) k i b'→(zbn H ι (Ωa ++ [c]) k i b'∧b' ∉ ι)∨(k=s∧i=i0∧b'=b):=fun {k i} h=>by
   obtain ⟨a',cls',fs',C',dx',ws',g',h',fd',y1,y2,y3,y4,y5,y6⟩:=h
   have hkl:k < Ωa.length:=by simpa using (List.getElem?_eq_some_iff.mp y2).1
   rw [hι k hkl] at y1
   have out:∀ {cls' fs' ws' C' dx' fd' g' h'},(Ωa ++ [c])[k]? = some (.ins cls' fs')→H a'=some (.ins C' dx' ws')→fs'[i]? = some (g',fd')→fd'.own=true→ws'[i]? = some (h',V.ref b')→b' ∉ ι:=fun {_ _ _ _ _ fdx _ _} x1 x2 x3 x4 x5=>by
    obtain ⟨_,_,_,ws2,_,p1,p2⟩:=w.cel k _ a' x1 y1
    rw [x2] at p1;cases p1
    obtain ⟨_,r⟩:=(zaX.mp p2).2 i _ _ _ _ x5 x3
    cases fdx with
    | val x=>cases x4
    | lst ds=>obtain ⟨b3,_,t1,_,t2,_⟩:=r;cases t1;exact t2
    | dct kvs=>obtain ⟨b3,_,t1,_,t2,_⟩:=r;cases t1;exact t2
   by_cases hks:k=s
   ·subst hks
    rw [List.getElem?_set_self hsl] at y2
    cases y2
    rw [ha] at y1;cases y1
    rw [h1] at y3;cases y3
    rw [e2] at y4
    by_cases hj:i=i0
    ·subst hj
     right
     rw [List.getElem?_set_self hi0] at y4
     cases y4
     obtain ⟨r1,r2⟩:=q2 i _ _ _ _ y6 e1
     simp only [FdOk,Den] at r2
     obtain ⟨b2,eb,hb2⟩:=r2
     rw [hb] at hb2;cases hb2
     cases eb
     exact ⟨rfl,rfl,rfl⟩
    ·rw [List.getElem?_set_ne (Ne.symm hj)] at y4
     have hs':(Ωa ++ [c])[k]? = some (.ins cls fs):=by rw [hΩ k hkl];exact hs
     exact .inl ⟨⟨a,_,fs,C,dx,ws,g',h',fd',ha,hs',h1,y4,y5,y6⟩,out hs' h1 y4 y5 y6⟩
   ·rw [List.getElem?_set_ne (Ne.symm hks)] at y2
    have hs':(Ωa ++ [c])[k]? = some (.ins cls' fs'):=by rw [hΩ k hkl];exact y2
    exact .inl ⟨⟨a',cls',fs',C',dx',ws',g',h',fd',y1,hs',y3,y4,y5,y6⟩,out hs' y3 y4 y5 y6⟩
  have hbι:b ∈ ι:=List.mem_of_getElem? hb
  rcases back z1 with ⟨x1,x2⟩ | ⟨x1,x2,x3⟩ <;> rcases back z2 with ⟨y1,y2⟩ | ⟨y1,y2,y3⟩
  ·exact w.sep b' k i k' i' x1 y1
  ·subst y3;exact absurd hbι x2
  ·subst x3;exact absurd hbι y2
  ·exact ⟨x1.trans y1.symm,x2.trans y2.symm⟩
end
end V2
namespace V2
open PySem PySem.Spec PyProof.Rows L2
def Unf (s:Nat) (f:Str) (Ω Ω1:Sto):Prop:=∃ cls fs fd c,Ω[s]? = some (.ins cls fs)∧fs.lookup f=some fd∧fd.cell=some c∧Ω1=Ω.set s (.ins cls (putD f (.val (.cel Ω.length)) fs)) ++ [c]
def Folds (s:Nat) (f:Str) (n:Nat) (Ω2 Ω':Sto):Prop:=∃ Ωa c cls fs fd,Ω2=Ωa ++ [c]∧Ωa.length=n∧Ωa[s]? = some (.ins cls fs)∧fs.lookup f=some (.val (.cel n))∧fd.cell=some c ∧
 (∀ k c',k ≠ s→Ωa[k]? = some c'→ClC n c')∧ClFs n (putD f fd fs)∧Ω'=Ωa.set s (.ins cls (putD f fd fs))
structure ClS (Ω:Sto) (ρ:Ev):Prop where
 cel:∀ (k:Nat) (c:Cell),Ω[k]? = some c→ClC Ω.length c
 env:∀ (i:Nat) (d:A),ρ[i]? = some (some d)→Cl Ω.length d
section
variable {K:PySem.W.Frag} {G H:Hp} {ι:List Addr} {Ω Ω1 Ω2 Ω':Sto} {σ:L2.St} {ρ:Ev} {W:WX} {s:Nat} {f:Str}
theorem Wd.clS (w:Wd K G ι Ω H) (r:EnvR K G ι σ ρ):ClS Ω ρ where
 cel:=fun k c h=>by
  obtain ⟨a,ha⟩:=w.addr h
  have:=(w.cel k c a h ha).cl
  rwa [w.len] at this
 env:=fun i d h=>by
  obtain ⟨v,_,q⟩:=r.2 i d h
  have:=q.cl
  rwa [w.len] at this
theorem Wd.unf (w:Wd K G ι Ω H) (h:Unf s f Ω Ω1):∃ b,Wd K G (ι ++ [b]) Ω1 H:=by
 obtain ⟨cls,fs,fd,c,h1,h2,h3,rfl⟩:=h
 exact w.unfold h1 h2 h3
theorem zfO {G':Hp} {ι':List Addr} {b:Addr} {n:Nat} (hl:ι.length=n) (e:Ext G (ι ++ [b]) G' ι'):Ext G ι G' (ι'.take n):=⟨e.same,fun k x h=>by
 have hk:=(List.getElem?_eq_some_iff.mp h).1
 rw [List.getElem?_take,if_pos (by omega)]
 exact e.pre k x (by rw [List.getElem?_append_left hk];exact h)⟩
theorem Wd.zkR {n:Nat} (w:Wd K G ι Ω2 H) (h:Folds s f n Ω2 Ω'):Wd K G (ι.take n) Ω' H:=by
 obtain ⟨Ωa,c,cls,fs,fd,rfl,rfl,h3,h4,h5,h6,h7,rfl⟩:=h
 exact w.fold h3 h4 h5 h6 h7
theorem zf5 {ι':List Addr} {n:Nat}:∀ k,k < n→(ι'.take n)[k]? = ι'[k]?:=fun k hk=>by rw [List.getElem?_take,if_pos hk]
theorem zhi {α β:Type} {rel:Rl α β} {cl:Nat→α→Prop} (hcut:∀ (G:Hp) (ι ι':List Addr) (n:Nat) (v:β) (a:α),(∀ k,k < n→ι[k]? = ι'[k]?)→rel G ι' v a→cl n a→rel G ι v a)
  {b:Addr} {Q:β→Hp→Prop} {a:α} (w:Wd K G ι Ω H) (hF:Folds s f Ω.length Ω2 Ω') (ha:cl Ω.length a) (h:Post K rel W G ι σ Q (some (.ok a,Ω'))):Post K rel W G (ι ++ [b]) σ Q (some (.ok a,Ω2)):=by
 intro v H' G' ι' e w' d
 exact h v H' G' (ι'.take Ω.length) (zfO w.len e) (w'.zkR hF) (hcut _ _ _ _ _ _ zf5 d ha)
theorem zgb {σ':L2.St} {ρ':Ev} {G':Hp} {ι':List Addr} {n:Nat} (r:EnvR K G' ι' σ' ρ') (hc:∀ (i:Nat) (d:A),ρ'[i]? = some (some d)→Cl n d):EnvR K G' (ι'.take n) σ' ρ' :=
 ⟨r.1,fun i d h=>let ⟨v,h1,h2⟩:=r.2 i d h; ⟨v,h1,h2.cut zf5 (hc i d h)⟩⟩
theorem zd0 {b:Addr} {D:Ends} {ρ':Ev} (w:Wd K G ι Ω H) (hF:Folds s f Ω.length Ω2 Ω') (hc:∀ (i:Nat) (d:A),ρ'[i]? = some (some d)→Cl Ω.length d) (h:zaQ K W G ι D (some (.nx,ρ',Ω'))):zaQ K W G (ι ++ [b]) D (some (.nx,ρ',Ω2)):=by
 intro σ' H' G' ι' e w' r'
 exact h σ' H' G' (ι'.take Ω.length) (zfO w.len e) (w'.zkR hF) (zgb r' hc)
end
section
variable {X:Cx} {W:WX} {e:Expr} {tg:Expr} {st:Stmt} {g d:Ev→Mo A} {gb db:Ev→Mo Bool} {gs ds:MS} {gt dt:A→MS}
theorem zhr (h:VE X W e g) (hd:∀ ρ Ω r,ClS Ω ρ→d ρ Ω=some r→∃ s f Ω1 a Ω2,Unf s f Ω Ω1∧g ρ Ω1=some (.ok a,Ω2)∧Folds s f Ω.length Ω2 r.2∧Cl Ω.length a∧r.1 = .ok a):VE X W e d:=by
 obtain ⟨t,p,sm⟩:=h
 refine ⟨t,p,fun G ι Ω H σ ρ Q w r h=>?_⟩
 cases e:d ρ Ω with
 | none=>rw [e] at h;exact h.elim
 | some q =>
  obtain ⟨s,f,Ω1,a,Ω2,h1,h2,h3,h4,h5⟩:=hd ρ Ω q (w.clS r) e
  obtain ⟨b,wb⟩:=w.unf h1
  obtain ⟨q1,q2⟩:=q
  simp only at h3 h5
  subst h5
  rw [e] at h
  refine sm G (ι ++ [b]) Ω1 H σ ρ Q wb (r.ext (Ext.cell b)) ?_
  rw [h2]
  exact zhi (rel:=Den X.K) (cl:=Cl) (fun _ _ _ _ _ _ h1 h2 h3=>h2.cut h1 h3) w h3 h4 h
theorem zjx (h:VS X W st gs) (hd:∀ ρ Ω r,ClS Ω ρ→ds ρ Ω=some r→∃ s f Ω1 Ω2,Unf s f Ω Ω1∧gs ρ Ω1=some (.nx,r.2.1,Ω2)∧Folds s f Ω.length Ω2 r.2.2∧(∀ (i:Nat) (d:A),r.2.1[i]? = some (some d)→Cl Ω.length d)∧r.1 = .nx):VS X W st ds:=by
 obtain ⟨t,p,sm⟩:=h
 refine ⟨t,p,fun G ι Ω H σ ρ D w r h=>?_⟩
 cases e:ds ρ Ω with
 | none=>rw [e] at h;exact h.elim
 | some q =>
  obtain ⟨s,f,Ω1,Ω2,h1,h2,h3,h4,h5⟩:=hd ρ Ω q (w.clS r) e
  obtain ⟨b,wb⟩:=w.unf h1
  obtain ⟨q1,q2,q3⟩:=q
  simp only at h2 h3 h4 h5
  subst h5
  rw [e] at h
  refine sm G (ι ++ [b]) Ω1 H σ ρ D wb (r.ext (Ext.cell b)) ?_
  rw [h2]
  exact zd0 w h3 h4 h
theorem zki (h:VG X W tg gt) (hd:∀ a ρ Ω r,ClS Ω ρ→Cl Ω.length a→dt a ρ Ω=some r→∃ s f Ω1 Ω2,Unf s f Ω Ω1∧gt a ρ Ω1=some (.nx,r.2.1,Ω2)∧Folds s f Ω.length Ω2 r.2.2∧(∀ (i:Nat) (d:A),r.2.1[i]? = some (some d)→Cl Ω.length d)∧r.1 = .nx):VG X W tg dt:=by
 obtain ⟨t,p,sm⟩:=h
 refine ⟨t,p,fun G ι Ω H σ ρ v a D w r dv h=>?_⟩
 cases e:dt a ρ Ω with
 | none=>rw [e] at h;exact h.elim
 | some q =>
  obtain ⟨s,f,Ω1,Ω2,h1,h2,h3,h4,h5⟩:=hd a ρ Ω q (w.clS r) (by have:=dv.cl;rwa [w.len] at this) e
  obtain ⟨b,wb⟩:=w.unf h1
  obtain ⟨q1,q2,q3⟩:=q
  simp only at h2 h3 h4 h5
  subst h5
  rw [e] at h
  refine sm G (ι ++ [b]) Ω1 H σ ρ v a D wb (r.ext (Ext.cell b)) (dv.ext (Ext.cell b)) ?_
  rw [h2]
  exact zd0 w h3 h4 h
end
def zaV (K:PySem.W.Frag) (cs:List Str) (f:Str):Prop:=∀ cls ∈ cs,∃ C,PySem.W.nsIn K mainGlobals cls=some (some (.ref C))∧Cls K C∧zdN K C f
@[simp] def gFld (cs:List Str) (f:Str) (a:A):Mo A:=fun Ω=>match a with
 | .cel s=>match Ω[s]? with
  | some (.ins cls fs)=>if cls ∈ cs then match fs.lookup f with
   | some (.val b)=>some (.ok b,Ω)
   | _=>none else none
  | _=>none
 | _=>none
@[simp] def vFld (cs:List Str) (f:Str) (fe:Ev→Mo A):Ev→Mo A:=fun ρ=>mb (fe ρ) (gFld cs f)
@[simp] def zei (cs:List Str) (f:Str) (fo fv:Ev→Mo A):MS:=fun ρ=>sM (fv ρ) ρ fun b=>sM (fo ρ) ρ fun a Ω=>match a with
 | .cel s=>match Ω[s]? with
  | some (.ins cls fs)=>if cls ∈ cs∧fs.length < 1000 then some (.nx,ρ,Ω.set s (.ins cls (putD f (.val b) fs))) else none
  | _=>none
 | _=>none
section
variable {K:PySem.W.Frag} {G H:Hp} {ι:List Addr} {Ω:Sto}
theorem Wd.ins (w:Wd K G ι Ω H) {s:Nat} {cls:Str} {fs:List (Str × Fd)} {v:V} (h:Ω[s]? = some (.ins cls fs)) (d:Den K G ι v (.cel s)):∃ a C dx,∃ ws:List (Str × V),v = .ref a∧ι[s]? = some a∧G a=none∧PySem.W.nsIn K mainGlobals cls=some (some (.ref C))∧H a=some (.ins C dx ws)∧zbo K G ι H ws fs:=by
 simp only [Den] at d
 obtain ⟨a,rfl,ha⟩:=d
 obtain ⟨g,C,dx,ws,h1,h2,h3⟩:=w.cel s _ a h ha
 exact ⟨a,C,dx,ws,rfl,ha,g,h1,h2,h3⟩
theorem ziY {f:Str} {v:V} {b:A}:∀ {ws:List (Str × V)} {fs:List (Str × Fd)} {i:Nat} {g h:Str} {fd:Fd} {x:V},zbo K G ι H ws fs→(putD f (.val b) fs)[i]? = some (g,fd)→fd.own=true→(putF f v ws)[i]? = some (h,x)→fs[i]? = some (g,fd)∧ws[i]? = some (h,x)
 | [],[],i,g,h,fd,x,_,y,o,_=>by
  cases i with
  | zero=>simp [putD] at y;obtain ⟨_,rfl⟩:=y;cases o
  | succ i=>simp [putD] at y
 | [],_ :: _,_,_,_,_,_,q,_,_,_=>q.elim
 | _ :: _,[],_,_,_,_,_,q,_,_,_=>q.elim
 | (k,u) :: ws,(k',d) :: fs,i,g,h,fd,x,q,y,o,z=>by
  obtain ⟨rfl,q2,q3⟩:=q
  by_cases e:k=f
  ·simp only [putD,putF,if_pos e] at y z
   cases i with
   | zero=>simp at y;obtain ⟨_,rfl⟩:=y;cases o
   | succ i=>exact ⟨by simpa using y,by simpa using z⟩
  ·simp only [putD,putF,if_neg e] at y z
   cases i with
   | zero=>exact ⟨by simpa using y,by simpa using z⟩
   | succ i =>
    have:=ziY (f:=f) (v:=v) (b:=b) (i:=i) q3 (by simpa using y) o (by simpa using z)
    exact ⟨by simpa using this.1,by simpa using this.2⟩
theorem Wd.setF (w:Wd K G ι Ω H) {s:Nat} {cls f:Str} {fs:List (Str × Fd)} {a C dx:Addr} {ws:List (Str × V)} {v:V} {b:A} (h:Ω[s]? = some (.ins cls fs)) (ha:ι[s]? = some a) (hg:G a=none) (h0:PySem.W.nsIn K mainGlobals cls=some (some (.ref C)))
  (h1:H a=some (.ins C dx ws)) (h2:zbo K G ι H ws fs) (d:Den K G ι v b):Wd K G ι (Ω.set s (.ins cls (putD f (.val b) fs))) (upd H a (.ins C dx (putF f v ws))):=by
 have hsl:s < Ω.length:=(List.getElem?_eq_some_iff.mp h).1
 have ho:∀ b o,b ∉ ι→G b=none→H b=some o→b ∉ ι∧G b=none∧upd H a (.ins C dx (putF f v ws)) b=some o:=fun b o x y z=>by
  have nb:b ≠ a:=fun e=>by subst e;exact x (zbe ha)
  exact ⟨x,y,by rw [zai nb];exact z⟩
 have h2':zbo K G ι (upd H a (.ins C dx (putF f v ws))) ws fs:=h2.map fun _ _ q=>q.mono (Ext.refl _ _) ho
 refine ⟨fun b u q=>?_,w.inj,by simp [w.len],fun b hb=>?_,fun j c' b z1 z2=>?_,fun b2 j i j' i' z1 z2=>?_⟩
 ·have e:b ≠ a:=fun e=>by subst e;rw [hg] at q;cases q
  rw [zai e];exact w.sub _ _ q
 ·by_cases e:b=a
  ·subst e;exact ⟨_,zaq⟩
  ·rw [zai e];exact w.live b hb
 ·by_cases hj:j=s
  ·subst hj
   rw [List.getElem?_set_self hsl] at z1
   cases z1
   rw [ha] at z2;cases z2
   exact ⟨hg,C,dx,_,h0,zaq,h2'.put d⟩
  ·rw [List.getElem?_set_ne (Ne.symm hj)] at z1
   have hne:b ≠ a:=fun e=>by subst e;exact hj (zbB w.inj z2 ha)
   exact (w.cel j c' b z1 z2).mono (Ext.refl _ _) rfl (zai hne) ho
 ·have back:∀ {j i},zbn (upd H a (.ins C dx (putF f v ws))) ι (Ω.set s (.ins cls (putD f (.val b) fs))) j i b2→zbn H ι Ω j i b2:=fun {j i} q=>by
   obtain ⟨a',cls',fs',C',dx',ws',g',h',fd',y1,y2,y3,y4,y5,y6⟩:=q
   by_cases hj:j=s
   ·subst hj
    rw [List.getElem?_set_self hsl] at y2
    cases y2
    rw [ha] at y1;cases y1
    rw [zaq] at y3;cases y3
    have pi:=ziY h2 y4 y5 y6
    exact ⟨a,cls,fs,C,dx,ws,g',h',fd',ha,h,h1,pi.1,y5,pi.2⟩
   ·rw [List.getElem?_set_ne (Ne.symm hj)] at y2
    have hne:a' ≠ a:=fun e=>by subst e;exact hj (zbB w.inj y1 ha)
    rw [zai hne] at y3
    exact ⟨a',cls',fs',C',dx',ws',g',h',fd',y1,y2,y3,y4,y5,y6⟩
  exact w.sep b2 j i j' i' (back z1) (back z2)
end
section
variable {X:Cx} {W:WX} {e o value:Expr} {f:Str} {cs:List Str} {pos pos':Pos} {fe fo fv:Ev→Mo A}
theorem zdW (h:VE X W e fe) (hc:zaV X.K cs f) (hb:attributeBase e f X.env (eval e X.env)=eval e X.env:=by rfl):VE X W (.Attribute e f pos) (vFld cs f fe):=by
 obtain ⟨t,p,s⟩:=h
 refine ⟨_,ziZ p hb,fun G ι Ω H σ ρ Q w r h=>?_⟩
 refine s G ι Ω H σ ρ _ w r (Post.mb h fun a Ω1 v H1 G1 ι1 x1 w1 d1 h1=>?_)
 unfold gFld at h1
 cases a with
 | cel k =>
  simp only at h1
  cases e2:Ω1[k]? with
  | none=>rw [e2] at h1;exact h1.elim
  | some c =>
   rw [e2] at h1
   cases c with
   | ins cls fs =>
    simp only at h1
    by_cases hcl:cls ∈ cs
    ·rw [if_pos hcl] at h1
     cases e3:fs.lookup f with
     | none=>rw [e3] at h1;exact h1.elim
     | some fd =>
      rw [e3] at h1
      cases fd with
      | val b =>
       obtain ⟨a,C,dx,ws,rfl,ha,hg,h0,hH,hF⟩:=w1.ins e2 d1
       obtain ⟨C',q0,q1,q2⟩:=hc cls hcl
       rw [h0] at q0;cases q0
       obtain ⟨u,l,du⟩:=hF.look e3
       exact ⟨a,C,dx,ws,u,rfl,hH,q1,q2,l,h1 u H1 G1 ι1 (Ext.refl _ _) w1 du⟩
      | _=>exact h1.elim
    ·rw [if_neg hcl] at h1;exact h1.elim
   | _=>exact h1.elim
 | _=>exact h1.elim
theorem zf7 (ho:VE X W o fo) (hv:VE X W value fv) (hc:zaV X.K cs f) (hs:swapsWith value (some (.Attribute o f pos')) pos.line X.env=pure false:=by rfl):VS X W (.Assign [.Attribute o f pos'] value pos) (zei cs f fo fv):=by
 obtain ⟨t,p,s⟩:=ho
 obtain ⟨u,q,z⟩:=hv
 refine ⟨_,zlN p q hs,fun G ι Ω H σ ρ D w r h=>?_⟩
 refine z G ι Ω H σ ρ _ w r (zaQ.sM h r fun b Ω1 y H1 G1 ι1 x1 w1 d1 h1=>?_)
 refine s G1 ι1 Ω1 H1 σ ρ _ w1 (r.ext x1) (zaQ.sM h1 (r.ext x1) fun a Ω2 v H2 G2 ι2 x2 w2 d2 h2=>?_)
 cases a with
 | cel k =>
  simp only at h2
  cases e2:Ω2[k]? with
  | none=>rw [e2] at h2;exact h2.elim
  | some c =>
   rw [e2] at h2
   cases c with
   | ins cls fs =>
    simp only at h2
    by_cases hcl:cls ∈ cs∧fs.length < 1000
    ·rw [if_pos hcl] at h2
     obtain ⟨a,C,dx,ws,rfl,ha,hg,h0,hH,hF⟩:=w2.ins e2 d2
     obtain ⟨C',q0,q1,q2⟩:=hc cls hcl.1
     rw [h0] at q0;cases q0
     refine ⟨a,C,dx,ws,rfl,hH,q1,q2,by rw [hF.len];exact hcl.2,?_⟩
     exact zed (w2.setF e2 ha hg h0 hH hF (d1.ext x2)) ((r.ext x1).ext x2) h2
    ·rw [if_neg hcl] at h2;exact h2.elim
   | _=>exact h2.elim
 | _=>exact h2.elim
end
end V2
namespace L2
open PySem PySem.Spec PyProof.Rows
section
variable {X:Cx} {W:WX} {k:Nat} {f C:Addr} {fd:FuncData} {ps:List Str} {sp:Sp} {dvs:List V} {ds:List Value} {x m:Str} {p pos apos:Pos} {e o:Expr} {es:List Expr} {ta:TE} {t:TA}
theorem zhd {pins:List (Addr × Obj)} {σ:St} {H:Hp} {s:Shared} {Q:VK} {us:List Value} {vs:List V} (T:zdK X W) (F:FnOk X.prog X.w X.K X.mg X.base (CXE X.prog X.w) k f fd ps sp) (hr:Room k X.A) (hb:Binds X.K fd ps ds) (hd:Vals dvs ds)
  (I:Inv X pins σ H s) (r:Vals vs us) (h:sp (vs ++ dvs) H Q fun cls dx H'=>W σ cls dx H'):wpAny (model X.prog X.w) X.A (call (.ref f) us) (EP X pins σ Q) X.xe s:=by
 have r2:Vals (vs ++ dvs) (us ++ ds):=r.append hd
 have hl:(us ++ ds).length=ps.length:=by rw [← r2.length];exact F.len _ _ _ _ h
 refine wpAny_call (codeAny_mono (F.run X.A X.stack s H ⟨us,[]⟩ (us ++ ds) (vs ++ dvs) Q _ hr I.env0 (hb s us I.kIn hl) r2 h) fun r s' hq=>?_)
 cases r with
 | error ev =>
  obtain ⟨a,cls,dx,H',rfl,os,bare,un,hok,ex,q'⟩:=hq
  have I2:=(I.zj3 os un hok bare (fun b z=>absurd z (by simp))).zk2
  exact T.to _ _ ⟨σ,H',a,cls,dx,rfl,I2,(ex.first I T.ex).any,q'⟩
 | ok fl =>
  cases fl with
  | ret u=>exact I.after hq
  | next=>exact False.elim hq
  | brk=>exact False.elim hq
  | cont=>exact False.elim hq
def zhG (X:Cx) (W:WX) (m:Str) (ta:TE) (t:TA):TE:=fun σ H Q=>ta σ H fun x H1=>∃ a C dx fs k f fd ps ds dvs sp,x = .ref a∧H1 a=some (.ins C dx fs)∧fs.lookup m=none∧Cls X.K C∧Meth X.K C m f ∧
 FnOk X.prog X.w X.K X.mg X.base (CXE X.prog X.w) k f fd ps sp∧Room k X.A∧Binds X.K fd ps ds∧Vals dvs ds∧t σ H1 fun vs H2=>sp (.ref a :: vs ++ dvs) H2 Q fun cls dx H'=>W σ cls dx H'
theorem ziq {pl:Sem Bool} (T:zdK X W) (he:PE X o ta) (ha:PA X (e :: es) t)
  (hst:starEach (e :: es) X.env=(false,eval e X.env) :: starEach es X.env:=by rfl) (hpl:(backTo pos (starEach es X.env)).any (·.1)=false:=by rfl)
  (ht:eval (.Call (.Attribute o m apos) (e :: es) [] pos) X.env=(do
   let ov ← eval o X.env
   standAt apos.atName
   let (f,first) ← holding [ov] (getMethod ov m pl)
   callWith pos f first (backTo pos (starEach (e :: es) X.env)) (backToKw pos (keywordEach [] X.env))):=by rfl) :
  PE X (.Call (.Attribute o m apos) (e :: es) [] pos) (zhG X W m ta t):=by
 intro pins s σ H Q I h
 refine PySem.W.methodCall_KW (pl:=pl) (thn (he pins s σ H _ I h) fun u s1 ⟨x,H1,I1,rx,a,C,dx,fs,k,f,fd,ps,ds,dvs,sp,ex,ea,l,c,hm,F,hr,hb,hd,q⟩=>?_) ht
 subst ex
 obtain rfl:u=Value.ref a:=rx
 refine zdU I1 ea c hm l ?_
 refine PySem.W.callWith_K (first:=[.ref a]) (h₀:=X.base) I.ok.mod.kin hm.kp (thn (ha pos pins s1 σ H1 _ I1 q) fun us s2 ⟨vs,H2,I2,r,q2⟩=>⟨I2.kIn,?_⟩) hst hpl
 exact zhd (us := .ref a :: us) (vs := .ref a :: vs) T F hr hb hd I2 (.cons rfl r) q2
theorem zg5 {pl:Sem Bool} (T:zdK X W) (he:PE X o ta)
  (ht:eval (.Call (.Attribute o m apos) [] [] pos) X.env=(do
   let ov ← eval o X.env
   standAt apos.atName
   let (f,first) ← holding [ov] (getMethod ov m pl)
   callWith pos f first (backTo pos (starEach [] X.env)) (backToKw pos (keywordEach [] X.env))):=by rfl) :
  PE X (.Call (.Attribute o m apos) [] [] pos) (zhG X W m ta tNil):=by
 intro pins s σ H Q I h
 refine PySem.W.methodCall_KW (pl:=pl) (thn (he pins s σ H _ I h) fun u s1 ⟨x,H1,I1,rx,a,C,dx,fs,k,f,fd,ps,ds,dvs,sp,ex,ea,l,c,hm,F,hr,hb,hd,q⟩=>?_) ht
 subst ex
 obtain rfl:u=Value.ref a:=rx
 refine zdU I1 ea c hm l ?_
 exact PySem.W.callWith_K0 (first:=[.ref a]) I1.kIn hm.kp (zhd (us:=[.ref a]) (vs:=[.ref a]) T F hr hb hd I1 (.cons rfl .nil) q)
structure zlO (K:PySem.W.Frag) (R:Addr) (m:Str) (f:Addr):Prop where
 reads:PySem.W.readsIn K R (.type "type")=true
 find:PySem.W.findCls K (.ref R) (.type "type") m=some (.val (.ref f))
 ga:PySem.W.specialIn K (.ref R) "__getattribute__" = some (some (.builtin "type.__getattribute__"))
 kp:PySem.W.keepIn K (.ref f)=true
end
end L2
namespace V2
open PySem PySem.Spec PyProof.Rows L2
@[simp] def zcJ (n:Nat) (das:List A) (F:List A→Mo A):List A→Mo A:=fun as=>if as.length + das.length=n then F (as ++ das) else stuck
structure zcx (P:Program) (w:World) (K:PySem.W.Frag) (mg:Str→Option Value) (base:Heap) (cls m:Str) (k:Nat) (n:Nat) (das:List A) (F:List A→Mo A):Prop where
 ex:∃ C f fd ps ds dvs,PySem.W.nsIn K mainGlobals cls=some (some (.ref C))∧Cls K C∧Meth K C m f∧ps.length=n∧FnOk P w K mg base (CXE P w) k f fd ps (spV K ps.length F)∧Binds K fd ps ds∧Vals dvs ds∧∀ G ι,DenL K G ι dvs das
@[simp] def zl1 (m:Str) (tab:List (Str × (List A→Mo A))) (fs:Mo (List A)) (a:A):Mo A:=fun Ω=>match a with
 | .cel s=>match Ω[s]? with
  | some (.ins cls fs0)=>match tab.lookup cls,fs0.lookup m with
   | some F,none=>mb fs (fun as=>F (.cel s :: as)) Ω
   | _,_=>none
  | _=>none
 | _=>none
@[simp] def zdL (m:Str) (tab:List (Str × (List A→Mo A))) (fo:Ev→Mo A) (fs:Ev→Mo (List A)):Ev→Mo A:=fun ρ=>mb (fo ρ) (zl1 m tab (fs ρ))
def TabM (X:Cx) (m:Str) (tab:List (Str × (List A→Mo A))):Prop:=∀ cls F,tab.lookup cls=some F→∃ k n das F0,F=zcJ n das F0∧Room k X.A∧zcx X.prog X.w X.K X.mg X.base cls m k n das F0
section
variable {X:Cx} {W:WX} {m:Str} {tab:List (Str × (List A→Mo A))} {o e:Expr} {es:List Expr} {fo:Ev→Mo A} {fs:Ev→Mo (List A)} {pos apos:Pos}
theorem TabM.nil:TabM X m []:=fun cls F h=>by simp at h
theorem TabM.cons {cls:Str} {k n:Nat} {das:List A} {F:List A→Mo A} (h:zcx X.prog X.w X.K X.mg X.base cls m k n das F) (hr:Room k X.A) (t:TabM X m tab):TabM X m ((cls,zcJ n das F) :: tab):=fun c F' q=>by
 by_cases e:c=cls
 ·subst e
  simp [List.lookup] at q
  exact ⟨k,n,das,F,q.symm,hr,h⟩
 ·have hb:(c == cls)=false:=beq_eq_false_iff_ne.mpr e
  simp only [List.lookup,hb] at q
  exact t c F' q
theorem zfS {ta:TE} {t:TA} (htab:TabM X m tab) (s1:Sim X.K (Den X.K) W ta fo) (s2:Sim X.K (DenL X.K) W t fs):Sim X.K (Den X.K) W (zhG X W m ta t) (zdL m tab fo fs):=by
 intro G ι Ω H σ ρ Q w r h
 refine s1 G ι Ω H σ ρ _ w r (Post.mb h fun a Ω1 v H1 G1 ι1 x1 w1 d1 h1=>?_)
 unfold zl1 at h1
 cases a with
 | cel s =>
  simp only at h1
  cases e2:Ω1[s]? with
  | none=>rw [e2] at h1;exact h1.elim
  | some c =>
   rw [e2] at h1
   cases c with
   | ins cls fs0 =>
    simp only at h1
    cases e3:tab.lookup cls with
    | none=>rw [e3] at h1;exact h1.elim
    | some F =>
     rw [e3] at h1
     cases e4:fs0.lookup m with
     | some _=>rw [e4] at h1;exact h1.elim
     | none =>
      rw [e4] at h1
      obtain ⟨k,n,das,F0,rfl,hr,MV⟩:=htab cls F e3
      obtain ⟨C,f,fd,ps,ds,dvs,hC,hcl,hme,hn,FO,hb,hv,hda⟩:=MV.ex
      obtain ⟨a,C',dx,ws,rfl,ha,hg,h0,hH,hF⟩:=w1.ins e2 d1
      rw [hC] at h0;cases h0
      refine ⟨a,C,dx,ws,k,f,fd,ps,ds,dvs,_,rfl,hH,hF.zkT e4,hcl,hme,FO,hr,hb,hv,?_⟩
      refine s2 G1 ι1 Ω1 H1 σ ρ _ w1 (r.ext x1) (Post.mb h1 fun as Ω2 vs H2 G2 ι2 x2 w2 d2 h2=>?_)
      unfold zcJ at h2
      split at h2
      ·rename_i hl
       have dd:DenL X.K G2 ι2 (.ref a :: vs ++ dvs) (.cel s :: as ++ das):=(DenL.cons (by simp only [Den] at d1 ⊢;obtain ⟨a2,e5,e6⟩:=d1;exact ⟨a2,e5,x2.pre _ _ e6⟩) d2).append (hda _ _)
       refine ⟨?_,G2,ι2,Ω2, .cel s :: as ++ das,w2,dd,zeL h2 (Ext.refl _ _)⟩
       have:=dd.length
       rw [this,hn]
       simp only [List.length_append,List.length_cons] at hl ⊢
       omega
      ·exact h2.elim
   | _=>exact h1.elim
 | _=>exact h1.elim
theorem zft {pl:Sem Bool} (T:zdK X W) (htab:TabM X m tab) (ho:VE X W o fo) (ha:VA X W (e :: es) fs)
  (hst:starEach (e :: es) X.env=(false,eval e X.env) :: starEach es X.env:=by rfl) (hpl:(backTo pos (starEach es X.env)).any (·.1)=false:=by rfl)
  (ht:eval (.Call (.Attribute o m apos) (e :: es) [] pos) X.env=(do
   let ov ← eval o X.env
   standAt apos.atName
   let (f,first) ← holding [ov] (getMethod ov m pl)
   callWith pos f first (backTo pos (starEach (e :: es) X.env)) (backToKw pos (keywordEach [] X.env))):=by rfl) :
  VE X W (.Call (.Attribute o m apos) (e :: es) [] pos) (zdL m tab fo fs):=by
 obtain ⟨ta,p1,s1⟩:=ho
 obtain ⟨t,p2,s2⟩:=ha
 exact ⟨_,ziq T p1 p2 hst hpl ht,zfS htab s1 s2⟩
theorem zhU {pl:Sem Bool} (T:zdK X W) (htab:TabM X m tab) (ho:VE X W o fo)
  (ht:eval (.Call (.Attribute o m apos) [] [] pos) X.env=(do
   let ov ← eval o X.env
   standAt apos.atName
   let (f,first) ← holding [ov] (getMethod ov m pl)
   callWith pos f first (backTo pos (starEach [] X.env)) (backToKw pos (keywordEach [] X.env))):=by rfl) :
  VE X W (.Call (.Attribute o m apos) [] [] pos) (zdL m tab fo a0):=by
 obtain ⟨ta,p1,s1⟩:=ho
 refine ⟨_,zg5 T p1 ht,zfS htab s1 ?_⟩
 intro G ι Ω H σ ρ Q w r h
 exact h [] H G ι (Ext.refl _ _) w .nil
structure zgg (P:Program) (w:World) (K:PySem.W.Frag) (mg:Str→Option Value) (base:Heap) (cls:Str) (k:Nat) (n:Nat) (F:List A→Mo A):Prop where
 ex:∃ C f fd ps,PySem.W.nsIn K mainGlobals cls=some (some (.ref C))∧mg cls=some (.ref C)∧Mk K C f∧ps.length=n∧FnOk P w K mg base (CXE P w) k f fd ps (spV K ps.length F)∧Binds K fd ps []
@[simp] def zfq (cls:Str) (n:Nat) (F:List A→Mo A) (as:List A):Mo A:=fun Ω=>if as.length + 1=n then match F (.cel Ω.length :: as) (Ω ++ [.ins cls []]) with
 | some (.ok .non,Ω2)=>some (.ok (.cel Ω.length),Ω2)
 | _=>none else none
theorem zgR {cls:Str} {k n:Nat} {F:List A→Mo A} {p:Pos} (M:zgg X.prog X.w X.K X.mg X.base cls k n F) (hr:Room (k + 1) X.A) (hg:Gl X cls) (ha:VA X W (e :: es) fs)
  (hdb:(cls == ("__debug__" : Str))=false:=by decide) (he:starEach (e :: es) X.env=(false,eval e X.env) :: starEach es X.env:=by rfl) (hpl:(backTo pos (starEach es X.env)).any (·.1)=false:=by rfl) :
  VE X W (.Call (.Name cls p) (e :: es) [] pos) (vCl (zfq cls n F) fs):=by
 obtain ⟨C,f,fd,ps,hC,hm,mk,hn,FO,hb⟩:=M.ex
 obtain ⟨t,p1,s1⟩:=ha
 refine ⟨_,zkl mk (zfv FO) hr hg hm hb .nil zmd p1 hdb he hpl,fun G ι Ω H σ ρ Q w r h=>?_⟩
 refine s1 G ι Ω H σ ρ _ w r (Post.mb h fun as Ω1 vs H1 G1 ι1 x1 w1 d1 h1=>?_)
 unfold zfq at h1
 by_cases hl:as.length + 1=n
 ·rw [if_pos hl] at h1
  intro x dx hx hdx hne
  have wA:=w1.grow (H':=upd H1 dx (.own x)) (Same.new hdx)
  have hx':upd H1 dx (.own x) x=none:=by rw [zai (Ne.symm hne)];exact hx
  have wB:Wd X.K G1 (ι1 ++ [x]) (Ω1 ++ [.ins cls []]) (upd (upd H1 dx (.own x)) x (.ins C dx [])):=wA.cell hx' ⟨w1.zdc hx,C,dx,[],hC,zaq,trivial⟩
  have dx':DenL X.K G1 (ι1 ++ [x]) (.ref x :: (vs ++ [])) (.cel Ω1.length :: as) := .cons (by simp only [Den];exact ⟨x,rfl,by rw [← w1.len];simp⟩) (by rw [List.append_nil];exact d1.ext (Ext.cell x))
  refine ⟨by rw [dx'.length,hn];simpa using hl,G1,ι1 ++ [x],_,_,wB,dx',?_⟩
  revert h1
  generalize F (.cel Ω1.length :: as) (Ω1 ++ [.ins cls []])=q
  intro h1
  match q,h1 with
  | some (.ok .non,Ω2),h1 =>
   intro v H' G' ι' e' w' d'
   simp only [Den] at d'
   subst d'
   refine ⟨rfl,h1 (.ref x) H' G' ι' ⟨e'.same,fun k a q=>e'.pre k a (by rw [List.getElem?_append_left (List.getElem?_eq_some_iff.mp q).1];exact q)⟩ w' ?_⟩
   simp only [Den]
   exact ⟨x,rfl,e'.pre _ _ (by rw [← w1.len];simp)⟩
 ·rw [if_neg hl] at h1;exact h1.elim
structure ziu (P:Program) (w:World) (K:PySem.W.Frag) (mg:Str→Option Value) (base:Heap) (rk m:Str) (k:Nat) (n:Nat) (F:List A→Mo A):Prop where
 ex:∃ R f fd ps,mg rk=some (.ref R)∧zlO K R m f∧ps.length=n∧FnOk P w K mg base (CXE P w) k f fd ps (spV K ps.length F)∧Binds K fd ps []
end
end V2
namespace V2
open PySem PySem.Spec PyProof.Rows L2
def ownF (cs:List Str) (i:Nat) (f:Str) (ρ:Ev) (Ω:Sto):Option (Nat × Str × List (Str × Fd) × Fd):=match (ρ[i]?).join with
 | some (.cel s)=>match Ω[s]? with
  | some (.ins cls fs)=>if cls ∈ cs then (fs.lookup f).map fun fd=>(s,cls,fs,fd) else none
  | _=>none
 | _=>none
abbrev lent (Ω:Sto) (s:Nat) (cls f:Str) (fs:List (Str × Fd)) (c:Cell):Sto:=Ω.set s (.ins cls (putD f (.val (.cel Ω.length)) fs)) ++ [c]
section
variable {cs:List Str} {i:Nat} {f:Str} {ρ:Ev} {Ω:Sto} {s:Nat} {cls:Str} {fs:List (Str × Fd)} {fd fd':Fd} {c c':Cell}
theorem zct (h:ownF cs i f ρ Ω=some (s,cls,fs,fd)):ρ[i]? = some (some (.cel s))∧Ω[s]? = some (.ins cls fs)∧cls ∈ cs∧fs.lookup f=some fd:=by
 unfold ownF at h
 cases e1:(ρ[i]?).join with
 | none=>rw [e1] at h;cases h
 | some d =>
  rw [e1] at h
  cases d with
  | cel k =>
   simp only at h
   cases e2:Ω[k]? with
   | none=>rw [e2] at h;cases h
   | some c =>
    rw [e2] at h
    cases c with
    | ins cls' fs' =>
     simp only at h
     by_cases hc:cls' ∈ cs
     ·rw [if_pos hc] at h
      cases e3:fs'.lookup f with
      | none=>rw [e3] at h;cases h
      | some x =>
       rw [e3] at h
       cases h
       exact ⟨join_some e1,e2,hc,e3⟩
     ·rw [if_neg hc] at h;cases h
    | _=>cases h
  | _=>cases h
theorem zj8 (h1:ρ[i]? = some (some (.cel s))) (h2:Ω[s]? = some (.ins cls fs)) (h3:cls ∈ cs) (h4:fs.lookup f=some fd):ownF cs i f ρ Ω=some (s,cls,fs,fd):=by
 unfold ownF
 rw [h1]
 simp [h2,h3,h4]
theorem zgU (h:ownF cs i f ρ Ω=some (s,cls,fs,fd)) (hc:fd.cell=some c):Unf s f Ω (lent Ω s cls f fs c):=by
 obtain ⟨h1,h2,h3,h4⟩:=zct h
 exact ⟨cls,fs,fd,c,h2,h4,hc,rfl⟩
theorem zcS {n:Nat} {f:Str} {fd:Fd}:∀ {fs:List (Str × Fd)},ClFs n fs→ClF n fd→ClFs n (putD f fd fs)
 | [],_,h=>⟨h,trivial⟩
 | (g,x) :: r,c,h=>by
  by_cases e:g=f
  ·simp only [putD,if_pos e];exact ⟨h,c.2⟩
  ·simp only [putD,if_neg e];exact ⟨c.1,zcS c.2 h⟩
theorem zfX (cl:ClS Ω ρ) (h:ownF cs i f ρ Ω=some (s,cls,fs,fd)) (hc:fd'.cell=some c') (hn:ClF Ω.length fd'):Folds s f Ω.length (lent Ω s cls f fs c') (Ω.set s (.ins cls (putD f fd' fs))):=by
 obtain ⟨h1,h2,h3,h4⟩:=zct h
 have hs:s < Ω.length:=(List.getElem?_eq_some_iff.mp h2).1
 refine ⟨Ω.set s (.ins cls (putD f (.val (.cel Ω.length)) fs)),c',cls,putD f (.val (.cel Ω.length)) fs,fd',rfl,by simp,List.getElem?_set_self hs,?_,hc,fun k x hk hx=>?_,?_,?_⟩
 ·rw [za0,if_pos rfl]
 ·rw [List.getElem?_set_ne (Ne.symm hk)] at hx
  exact cl.cel k x hx
 ·rw [za4]
  have:=cl.cel s _ h2
  exact zcS this hn
 ·rw [za4,List.set_set]
theorem zd4 (cl:ClS Ω ρ) (h:ownF cs i f ρ Ω=some (s,cls,fs,fd)) (hc:fd.cell=some c):Folds s f Ω.length (lent Ω s cls f fs c) Ω:=by
 obtain ⟨h1,h2,h3,h4⟩:=zct h
 obtain ⟨j,e1,_⟩:=zc2 h4
 have hn:ClF Ω.length fd:=(cl.cel s _ h2:ClFs _ fs).get e1
 have:=zfX cl h hc hn
 rw [zeH h4] at this
 have e:Ω.set s (.ins cls fs)=Ω:=by
  apply List.ext_getElem?
  intro j
  by_cases hj:s=j
  ·subst hj
   rw [List.getElem?_set_self (List.getElem?_eq_some_iff.mp h2).1,h2]
  ·rw [List.getElem?_set_ne hj]
 rwa [e] at this
theorem zfI (h:ownF cs i f ρ Ω=some (s,cls,fs,fd)):(lent Ω s cls f fs c)[Ω.length]? = some c:=by
 rw [List.getElem?_append_right (by simp)];simp
theorem zeq (h:ownF cs i f ρ Ω=some (s,cls,fs,fd)):vFld cs f (vVar i) ρ (lent Ω s cls f fs c)=some (.ok (.cel Ω.length),lent Ω s cls f fs c):=by
 obtain ⟨h1,h2,h3,h4⟩:=zct h
 have hs:s < Ω.length:=(List.getElem?_eq_some_iff.mp h2).1
 have e:(lent Ω s cls f fs c)[s]? = some (.ins cls (putD f (.val (.cel Ω.length)) fs)):=by
  rw [List.getElem?_append_left (by simpa using hs),List.getElem?_set_self hs]
 have l:(putD f (Fd.val (.cel Ω.length)) fs).lookup f=some (.val (.cel Ω.length)):=by rw [za0,if_pos rfl]
 have h1':(ρ[i]?).join=some (.cel s):=by rw [h1];rfl
 simp only [vFld,vVar,need,mb,h1',Option.map_some,gFld,e,if_pos h3,l]
theorem zh0 (c2:Cell):(lent Ω s cls f fs c).set Ω.length c2=lent Ω s cls f fs c2:=by
 unfold lent
 rw [List.set_append_right _ _ (by simp)];simp
theorem zij {α β:Type} {m:Mo α} {k:α→Mo β} {Ω Ω1:Sto} {a:α} (h:m Ω=some (.ok a,Ω1)):mb m k Ω=k a Ω1:=by simp [mb,h]
theorem zkP {α:Type} {m:Mo α} {k:α→Sto→OS} {ρ:Ev} {Ω Ω1:Sto} {a:α} (h:m Ω=some (.ok a,Ω1)):sM m ρ k Ω=k a Ω1:=by simp [sM,h]
end
def zjZ (fe:Ev→Mo A):Prop:=∀ ρ Ω Ω' r,fe ρ Ω=some r→∃ a,r=(.ok a,Ω)∧fe ρ Ω'=some (.ok a,Ω')∧(ClS Ω ρ→Cl Ω.length a)
theorem zfR (j:Nat):zjZ (vVar j):=fun ρ Ω Ω' r h=>by
 simp only [vVar,need] at h ⊢
 cases e:(ρ[j]?).join with
 | none=>rw [e] at h;cases h
 | some a=>rw [e] at h;cases h;exact ⟨a,rfl,rfl,fun c=>c.env j a (join_some e)⟩
@[simp] def zfs (cs:List Str) (i:Nat) (f:Str):Ev→Mo A:=fun ρ Ω=>match ownF cs i f ρ Ω with
 | some (_,_,_, .lst ds)=>some (.ok (.int ds.length),Ω)
 | _=>none
@[simp] def vFIx (cs:List Str) (i:Nat) (f:Str) (fi:Ev→Mo A):Ev→Mo A:=fun ρ Ω=>match ownF cs i f ρ Ω with
 | some (_,_,_, .lst ds)=>match fi ρ Ω with
  | some (.ok (.int n),_)=>match atI ds n with
   | some d=>some (.ok d,Ω)
   | none=>none
  | _=>none
 | _=>none
@[simp] def zh3 (cs:List Str) (i:Nat) (f:Str) (fi:Ev→Mo A):A→MS:=fun a ρ Ω=>match ownF cs i f ρ Ω with
 | some (s,cls,fs, .lst ds)=>match fi ρ Ω with
  | some (.ok (.int n),_)=>match ixN ds.length n with
   | some j=>some (.nx,ρ,Ω.set s (.ins cls (putD f (.lst (ds.set j a)) fs)))
   | none=>none
  | _=>none
 | _=>none
theorem zhM {n:Nat}:∀ {ds:List A} {i:Nat} {d:A},ClL n ds→ds[i]? = some d→Cl n d
 | [],_,_,_,h=>by simp at h
 | _ :: _,0,_,c,h=>by simp at h;subst h;exact c.1
 | _ :: ds,i + 1,_,c,h=>zhM (ds:=ds) c.2 (by simpa using h)
theorem zg4 {n:Nat} {a:A} (ha:Cl n a):∀ {ds:List A} (j:Nat),ClL n ds→ClL n (ds.set j a)
 | [],_,_=>trivial
 | _ :: _,0,c=>⟨ha,c.2⟩
 | _ :: ds,j + 1,c=>⟨c.1,zg4 ha j c.2⟩
theorem zgP {n:Nat}:∀ {ds es:List A},ClL n ds→ClL n es→ClL n (ds ++ es)
 | [],_,_,h=>h
 | _ :: _,_,c,h=>⟨c.1,zgP c.2 h⟩
theorem zi8 {cs:List Str} {i:Nat} {f:Str} {ρ:Ev} {Ω:Sto} {s:Nat} {cls:Str} {fs:List (Str × Fd)} {fd:Fd} (cl:ClS Ω ρ) (h:ownF cs i f ρ Ω=some (s,cls,fs,fd)):ClF Ω.length fd:=by
 obtain ⟨h1,h2,h3,h4⟩:=zct h
 obtain ⟨j,e1,_⟩:=zc2 h4
 exact (cl.cel s _ h2:ClFs _ fs).get e1
section
variable {X:Cx} {W:WX} {e e1 o tg:Expr} {f:Str} {cs:List Str} {i:Nat} {pos pos' apos fpos:Pos} {fe fi:Ev→Mo A}
theorem zjj (h:VE X W e (vCl gLen (zac (vFld cs f (vVar i)) a0))):VE X W e (zfs cs i f):=by
 refine zhr h fun ρ Ω r cl hd=>?_
 unfold zfs at hd
 split at hd
 ·rename_i s cls fs ds eo
  cases hd
  refine ⟨s,f,_, .int ds.length,_,zgU eo rfl,?_,zd4 cl eo rfl,by simp only [Cl],rfl⟩
  have q:=zeq (c := .lst ds) eo
  have l:zaj (lent Ω s cls f fs (.lst ds)) (.cel Ω.length)=some ds:=zan (zfI eo)
  have l2:za9 (lent Ω s cls f fs (.lst ds)) (.cel Ω.length)=some ds:=l
  show mb (mb (vFld cs f (vVar i) ρ) fun x=>mb (a0 ρ) fun xs=>ret (x :: xs)) gLen _=_
  rw [zij (a:=[A.cel Ω.length]) (Ω1:=lent Ω s cls f fs (.lst ds)) (by rw [zij q];rfl)]
  simp [gLen,l,l2]
 ·cases hd
theorem zlK (h:VE X W e (vOp gIx (vFld cs f (vVar i)) fi)) (hp:zjZ fi):VE X W e (vFIx cs i f fi):=by
 refine zhr h fun ρ Ω r cl hd=>?_
 unfold vFIx at hd
 split at hd
 ·rename_i s cls fs ds eo
  split at hd
  ·rename_i n Ω' e2
   split at hd
   ·rename_i d e3
    cases hd
    obtain ⟨a,q1,q2,_⟩:=hp ρ Ω (lent Ω s cls f fs (.lst ds)) _ e2
    cases q1
    have hc:Cl Ω.length d:=by
     unfold atI at e3
     cases e4:ixN ds.length n with
     | none=>rw [e4] at e3;cases e3
     | some k=>rw [e4] at e3;exact zhM (zi8 cl eo:ClL _ ds) e3
    refine ⟨s,f,_,d,_,zgU eo rfl,?_,zd4 cl eo rfl,hc,rfl⟩
    have q:=zeq (c := .lst ds) eo
    have l:za9 (lent Ω s cls f fs (.lst ds)) (.cel Ω.length)=some ds:=zan (zfI eo)
    simp only [vOp]
    rw [zij q,zij q2]
    simp [gIx,l,e3]
   ·cases hd
  ·cases hd
 ·cases hd
theorem zkC (h:VG X W tg (zhq (vFld cs f (vVar i)) fi)) (hp:zjZ fi):VG X W tg (zh3 cs i f fi):=by
 refine zki h fun a ρ Ω r cl ca hd=>?_
 unfold zh3 at hd
 split at hd
 ·rename_i s cls fs ds eo
  split at hd
  ·rename_i n Ω' e2
   split at hd
   ·rename_i j e3
    cases hd
    obtain ⟨b,q1,q2,_⟩:=hp ρ Ω (lent Ω s cls f fs (.lst ds)) _ e2
    cases q1
    refine ⟨s,f,_,lent Ω s cls f fs (.lst (ds.set j a)),zgU eo rfl,?_,zfX cl eo rfl (zg4 ca j (zi8 cl eo)),fun k d hk=>cl.env k d hk,rfl⟩
    have q:=zeq (c := .lst ds) eo
    have l:(lent Ω s cls f fs (.lst ds))[Ω.length]? = some (.lst ds):=zfI eo
    simp only [zhq]
    rw [zkP q,zkP q2]
    simp only [setCell,l,e3,zh0]
   ·cases hd
  ·cases hd
 ·cases hd
end
def zbb (Ω:Sto):A→Option (List A)
 | .lst ds=>some ds
 | .cel k=>match Ω[k]? with
  | some (.lst ds)=>some ds
  | _=>none
 | _=>none
theorem zdV {K:PySem.W.Frag} {G H:Hp} {ι:List Addr} {Ω:Sto} {v:V} {a:A} {ds:List A} (w:Wd K G ι Ω H) (d:Den K G ι v a) (h:zbb Ω a=some ds):∃ p xs,v = .ref p∧H p=some (.lst xs)∧DenL K G ι xs ds:=by
 cases a with
 | lst es =>
  simp only [zbb,Option.some.injEq] at h;subst h
  simp only [Den] at d
  obtain ⟨p,xs,rfl,h2,h3⟩:=d
  exact ⟨p,xs,rfl,w.sub _ _ h2,h3⟩
 | cel j =>
  simp only [zbb] at h
  split at h
  ·rename_i es e
   cases h
   simp only [Den] at d
   obtain ⟨p,rfl,hk⟩:=d
   obtain ⟨g,xs,h3,h4⟩:=w.cel j _ p e hk
   exact ⟨p,xs,rfl,h3,h4⟩
  ·cases h
 | _=>simp [zbb] at h
@[simp] def zeu (o:A) (as:List A):Mo A:=fun Ω=>match zcW Ω o,as with
 | some (k,ds),[y]=>match zbb Ω y with
  | some es=>if ds.length + es.length ≤ sizeLine then some (.ok .non,Ω.set k (.lst (ds ++ es))) else none
  | none=>none
 | _,_=>none
theorem ziw {X:Cx} {W:WX}:MtV X.K W zhL zeu:=by
 intro G ι Ω H σ x xs a as Q w d1 d2 h
 unfold zeu at h
 split at h
 ·rename_i k ds y e
  split at h
  ·rename_i es e2
   split at h
   ·rename_i hl
    obtain ⟨p,zs,rfl,hk,g,h3,h4⟩:=zf8 w d1 e
    obtain ⟨u,rfl,du⟩:=den1 d2
    obtain ⟨p2,ys,rfl,h5,h6⟩:=zdV w du e2
    refine ⟨p,p2,zs,ys,rfl,rfl,h3,h5,by rw [h4.length,h6.length];exact hl,?_⟩
    exact h _ _ G ι (Ext.refl _ _) (w.put (c := .lst (ds ++ es)) hk g ⟨g,_,zaq,h4.append h6⟩) (by simp only [Den])
   ·exact False.elim h
  ·exact False.elim h
 ·exact False.elim h
theorem Wd.putO {K:PySem.W.Frag} {G H:Hp} {ι:List Addr} {Ω:Sto} {s:Nat} {cls f:Str} {fs:List (Str × Fd)} {fd fd':Fd} {c c':Cell} {o:HO} {a b C dx:Addr} {ws:List (Str × V)} (w:Wd K G ι Ω H) (hs:Ω[s]? = some (.ins cls fs)) (ha:ι[s]? = some a)
  (hH:H a=some (.ins C dx ws)) (hf:fs.lookup f=some fd) (hc:fd.cell=some c) (hl:ws.lookup f=some (.ref b)) (hc':fd'.cell=some c') (hok:zbL K G (ι ++ [b]) (upd H b o) b c') (hcl:ClF Ω.length fd'):Wd K G ι (Ω.set s (.ins cls (putD f fd' fs))) (upd H b o):=by
 have hsl:s < Ω.length:=(List.getElem?_eq_some_iff.mp hs).1
 have cl:ClS Ω []:=w.clS (σ:=[]) ⟨rfl,fun i d h=>by simp at h⟩
 obtain ⟨b',wb⟩:=w.unfold hs hf hc
 have e1:(Ω.set s (.ins cls (putD f (.val (.cel Ω.length)) fs)) ++ [c])[s]? = some (.ins cls (putD f (.val (.cel Ω.length)) fs)):=by
  rw [List.getElem?_append_left (by simpa using hsl),List.getElem?_set_self hsl]
 have e2:(ι ++ [b'])[s]? = some a:=by rw [List.getElem?_append_left (by rw [w.len];exact hsl)];exact ha
 obtain ⟨_,C1,dx1,ws1,_,z1,z2⟩:=wb.cel s _ a e1 e2
 rw [hH] at z1;cases z1
 obtain ⟨v,y1,y2⟩:=z2.look (f:=f) (fd := .val (.cel Ω.length)) (by rw [za0,if_pos rfl])
 rw [hl] at y1;cases y1
 simp only [FdOk,Den] at y2
 obtain ⟨b2,y3,y4⟩:=y2
 cases y3
 have e3:(ι ++ [b'])[Ω.length]? = some b':=by rw [← w.len];simp
 rw [e3] at y4;cases y4
 have gb:G b=none:=by
  have q:=wb.cel Ω.length c b (by rw [List.getElem?_append_right (by simp)];simp) e3
  cases fd with
  | val x=>cases hc
  | lst ds=>cases hc;exact q.1
  | dct kvs=>cases hc;exact q.1
 have wp:=wb.put (k:=Ω.length) (c:=c') (o:=o) e3 gb hok (Fd.zd5 hc')
 have e4:(Ω.set s (.ins cls (putD f (.val (.cel Ω.length)) fs)) ++ [c]).set Ω.length c'=Ω.set s (.ins cls (putD f (.val (.cel Ω.length)) fs)) ++ [c']:=by
  rw [List.set_append_right _ _ (by simp)];simp
 rw [e4] at wp
 have wf:=wp.fold (s:=s) (f:=f) (fd:=fd') (cls:=cls) (fs:=putD f (.val (.cel Ω.length)) fs) (List.getElem?_set_self hsl) (by rw [za0,if_pos rfl];simp) hc' (fun k x hk hx=>by
  rw [List.getElem?_set_ne (Ne.symm hk)] at hx
  have:=cl.cel k x hx
  simpa using this) (by
  rw [za4]
  have:=zcS (f:=f) (cl.cel s _ hs:ClFs _ fs) hcl
  simpa using this)
 rw [za4,List.set_set] at wf
 have e5:(ι ++ [b]).take (Ω.set s (.ins cls (putD f (.val (.cel Ω.length)) fs))).length=ι:=by
  rw [List.length_set,← w.len];simp
 rwa [e5] at wf
@[simp] def zeS (cs:List Str) (i:Nat) (f:Str):Ev→Mo A:=fun ρ Ω=>match ownF cs i f ρ Ω with
 | some (s,cls,fs, .lst ds)=>if ds.length < sizeLine then some (.ok .non,Ω.set s (.ins cls (putD f (.lst (ds ++ [.cel Ω.length])) fs)) ++ [.lst []]) else none
 | _=>none
def zex (i:Nat) (f:Str) (g:MS) (ρ:Ev) (Ω:Sto) (r:Out × Ev × Sto):Prop :=
 ∃ s cls fs fd c Ωa fd' c',ρ[i]? = some (some (.cel s))∧Ω[s]? = some (.ins cls fs)∧fs.lookup f=some fd∧fd.cell=some c∧g ρ (lent Ω s cls f fs c)=some (.nx,r.2.1,Ωa ++ [c'])∧Ωa.length=Ω.length ∧
  Ωa[s]? = some (.ins cls (putD f (.val (.cel Ω.length)) fs))∧fd'.cell=some c'∧(∀ (k:Nat) (x:Cell),k ≠ s→Ωa[k]? = some x→Ω[k]? = some x∨ClC Ω.length x)∧(fd'=fd∨ClF Ω.length fd') ∧
  (∀ (j:Nat) (d:A),r.2.1[j]? = some (some d)→ρ[j]? = some (some d)∨Cl Ω.length d)∧r.1 = .nx∧r.2.2=Ωa.set s (.ins cls (putD f fd' fs))
open Classical in
noncomputable def zhm (i:Nat) (f:Str) (g:MS):MS:=fun ρ Ω=>if h:∃ r,zex i f g ρ Ω r then some (Classical.choose h) else none
theorem zih {a b:Fd} {c:Cell} (h1:a.cell=some c) (h2:b.cell=some c):a=b:=by
 cases a with
 | val x=>cases h1
 | lst ds=>cases b with
  | lst es=>cases h1;cases h2;rfl
  | val _=>cases h2
  | dct _=>cases h1;cases h2
 | dct kvs=>cases b with
  | dct es=>cases h1;cases h2;rfl
  | val _=>cases h2
  | lst _=>cases h1;cases h2
theorem zex.uniq {i:Nat} {f:Str} {g:MS} {ρ:Ev} {Ω:Sto} {r r':Out × Ev × Sto} (h:zex i f g ρ Ω r) (h':zex i f g ρ Ω r'):r=r':=by
 obtain ⟨s,cls,fs,fd,c,Ωa,fd1,c1,a1,a2,a3,a4,a5,a6,a7,a8,a9,a10,a11,a12,a13⟩:=h
 obtain ⟨s',cls',fs',fd',c',Ωb,fd2,c2,b1,b2,b3,b4,b5,b6,b7,b8,b9,b10,b11,b12,b13⟩:=h'
 rw [a1] at b1;cases b1
 rw [a2] at b2;cases b2
 rw [a3] at b3;cases b3
 rw [a4] at b4;cases b4
 rw [a5] at b5
 obtain ⟨r1,r2,r3⟩:=r
 obtain ⟨p1,p2,p3⟩:=r'
 simp only [Option.some.injEq,Prod.mk.injEq,true_and] at *
 obtain ⟨e1,e2⟩:=b5
 obtain ⟨rfl,e3⟩:=List.append_inj' e2 rfl
 simp only [List.cons.injEq,and_true] at e3
 subst e3
 have:=zih a8 b8
 subst this
 subst a12 b12
 exact ⟨rfl,e1,by rw [a13,b13]⟩
theorem ziP {i:Nat} {f:Str} {g:MS} {ρ:Ev} {Ω:Sto} {r:Out × Ev × Sto} (h:zex i f g ρ Ω r):zhm i f g ρ Ω=some r:=by
 have ex:∃ r,zex i f g ρ Ω r:=⟨r,h⟩
 unfold zhm
 rw [dif_pos ex]
 exact congrArg some (zex.uniq (Classical.choose_spec ex) h)
section
variable {X:Cx} {W:WX} {st:Stmt} {f:Str} {cs:List Str} {i:Nat} {pos lpos apos fpos npos:Pos} {gs:MS} {x:Str}
theorem zic (h:VS X W st gs):VS X W st (zhm i f gs):=by
 refine zjx h fun ρ Ω r cl hd=>?_
 unfold zhm at hd
 split at hd
 ·rename_i ex
  cases hd
  generalize hr:Classical.choose ex=r
  have hsp:=Classical.choose_spec ex
  rw [hr] at hsp
  obtain ⟨s,cls,fs,fd,c,Ωa,fd1,c1,a1,a2,a3,a4,a5,a6,a7,a8,a9,a10,a11,a12,a13⟩:=hsp
  obtain ⟨ix,e1,_⟩:=zc2 a3
  have hfd:ClF Ω.length fd:=(cl.cel s _ a2:ClFs _ fs).get e1
  refine ⟨s,f,_,Ωa ++ [c1],⟨cls,fs,fd,c,a2,a3,a4,rfl⟩,a5,⟨Ωa,c1,cls,_,fd1,rfl,a6,a7,by rw [za0,if_pos rfl],a8,fun k x hk hx=>?_,?_,by rw [za4];exact a13⟩,fun j d hj=>?_,a12⟩
  ·rcases a9 k x hk hx with z | z
   ·exact cl.cel k x z
   ·exact z
  ·rw [za4]
   exact zcS (cl.cel s _ a2:ClFs _ fs) (by rcases a10 with z | z;exact z ▸ hfd;exact z)
  ·rcases a11 j d hj with z | z
   ·exact cl.env j d z
   ·exact z
 ·cases hd
theorem zh7 (hv:PE X (.Name x npos) (tVar i)) (hc:zaV X.K cs f) (hbf:attributeBase (.Name x npos) f X.env (eval (.Name x npos) X.env)=eval (.Name x npos) X.env:=by rfl)
  (hbase:attributeBase (.Attribute (.Name x npos) f fpos) "append" X.env (eval (.Attribute (.Name x npos) f fpos) X.env)=eval (.Attribute (.Name x npos) f fpos) X.env:=by rfl)
  (hfew:((backTo pos (starEach [.List [] lpos] X.env)).all (fun x=>!x.1) && (backToKw pos (keywordEach [] X.env)).all (fun x=>x.1.isSome)
   && decide (([.List [] lpos] : List Expr).length + ([] : List Keyword).length + (if ([] : List Keyword).isEmpty then 0 else 1) < 30))=true:=by rfl)
  (hline:(apos.endLine == pos.line)=true:=by rfl) (hs:starEach [.List [] lpos] X.env=(false,eval (.List [] lpos) X.env) :: starEach [] X.env:=by rfl) (hplain:(backTo pos (starEach [] X.env)).any (·.1)=false:=by rfl) :
  VE X W (.Call (.Attribute (.Attribute (.Name x npos) f fpos) "append" apos) [.List [] lpos] [] pos) (zeS cs i f):=by
 refine ⟨_,zkU PySem.F.plainAttrs_list PySem.F.slot_list_append PySem.F.type_list_append zck (ziZ hv hbf) (zdy (zjb ze7) ze7) hbase hfew hline hs hplain,fun G ι Ω H σ ρ Q w r h=>?_⟩
 unfold zeS at h
 split at h
 ·rename_i s cls fs ds eo
  split at h
  ·rename_i hl
   obtain ⟨h1,h2,h3,h4⟩:=zct eo
   obtain ⟨v,q1,q2⟩:=r.2 i _ h1
   obtain ⟨a,C,dx,ws,rfl,ha,hg,h0,hH,hF⟩:=w.ins h2 q2
   obtain ⟨C',z0,z1,z2⟩:=hc cls h3
   rw [h0] at z0;cases z0
   obtain ⟨u,l,du⟩:=hF.look h4
   have du0:=du
   obtain ⟨b,xs,rfl,hGb,hbι,hHb,hden⟩:=du
   refine ⟨_,q1,a,C,dx,ws, .ref b,rfl,hH,z1,z2,l, .inl ⟨rfl,xs, .inl (.inl hHb)⟩,⟨by simp,fun p hp=>?_⟩⟩
   have hb0:b ≠ p:=zau hHb hp
   have hHb':upd H p (.lst []) b=some (.lst xs):=by rw [zai hb0];exact hHb
   refine ⟨b,xs, .ref p,rfl,rfl,hHb',by rw [hden.length];exact hl,?_⟩
   have hsl:s < Ω.length:=(List.getElem?_eq_some_iff.mp h2).1
   have w1:Wd X.K G (ι ++ [p]) (Ω ++ [.lst []]) (upd H p (.lst [])):=w.cell hp ⟨w.zdc hp,[],zaq, .nil⟩
   have hap:a ≠ p:=w.ne hp (zbe ha)
   have e1:(Ω ++ [Cell.lst []])[s]? = some (.ins cls fs):=by rw [List.getElem?_append_left hsl];exact h2
   have e2:(ι ++ [p])[s]? = some a:=by rw [List.getElem?_append_left (by rw [w.len];exact hsl)];exact ha
   have e3:upd H p (.lst []) a=some (.ins C dx ws):=by rw [zai hap];exact hH
   have cl0:ClL Ω.length ds:=by have:=hden.cl;rwa [w.len] at this
   have w2:=w1.putO (fd' := .lst (ds ++ [.cel Ω.length])) (o := .lst (xs ++ [.ref p])) e1 e2 e3 h4 rfl l rfl ⟨hGb,_,zaq,((hden.ext (Ext.cell p)).ext (Ext.cell b)).append (.cons (by simp only [Den];exact ⟨p,rfl,by rw [List.getElem?_append_left (by simp [w.len]),← w.len];simp⟩) .nil)⟩ (zgP (by
    have:=hden.ext (Ext.cell (G:=G) p)
    have:=this.cl
    simpa [w.len] using this) ⟨by simp [Cl],trivial⟩)
   rw [List.set_append_left _ _ hsl] at w2
   exact h .non _ G (ι ++ [p]) (Ext.cell p) w2 (by simp only [Den])
  ·exact h.elim
 ·exact h.elim
end
end V2
namespace V2
open PySem PySem.Spec PyProof.Rows L2
def objF (cs:List Str) (i:Nat) (ρ:Ev) (Ω:Sto):Option (Nat × Str × List (Str × Fd)):=match (ρ[i]?).join with
 | some (.cel s)=>match Ω[s]? with
  | some (.ins cls fs)=>if cls ∈ cs then some (s,cls,fs) else none
  | _=>none
 | _=>none
theorem zhW {cs:List Str} {i:Nat} {ρ:Ev} {Ω:Sto} {s:Nat} {cls:Str} {fs:List (Str × Fd)} (h:objF cs i ρ Ω=some (s,cls,fs)):ρ[i]? = some (some (.cel s))∧Ω[s]? = some (.ins cls fs)∧cls ∈ cs:=by
 unfold objF at h
 cases e1:(ρ[i]?).join with
 | none=>rw [e1] at h;cases h
 | some d =>
  rw [e1] at h
  cases d with
  | cel k =>
   simp only at h
   cases e2:Ω[k]? with
   | none=>rw [e2] at h;cases h
   | some c =>
    rw [e2] at h
    cases c with
    | ins cls' fs' =>
     simp only at h
     by_cases hc:cls' ∈ cs
     ·rw [if_pos hc] at h
      cases h
      exact ⟨join_some e1,e2,hc⟩
     ·rw [if_neg hc] at h;cases h
    | _=>cases h
  | _=>cases h
@[simp] def Fd.ofC:Cell→Option Fd
 | .lst ds=>some (.lst ds)
 | .dct kvs=>some (.dct kvs)
 | _=>none
theorem Fd.zh6 {c:Cell} {fd:Fd} (h:Fd.ofC c=some fd):fd.cell=some c:=by
 cases c <;> cases h <;> rfl
open Classical in
@[simp] noncomputable def zil (cs:List Str) (i:Nat) (f:Str) (fv:Ev→Mo A):MS:=fun ρ Ω=>match objF cs i ρ Ω with
 | some (s,cls,fs)=>match fv ρ Ω with
  | some (.ok (.cel n),Ω1)=>match Ω1[Ω.length]? with
   | some c=>match Fd.ofC c with
    | some fd=>if n=Ω.length∧Ω1=Ω ++ [c]∧fs.length < 1000∧ClF Ω.length fd then some (.nx,ρ,Ω.set s (.ins cls (putD f fd fs))) else none
    | none=>none
   | none=>none
  | _=>none
 | none=>none
section
variable {X:Cx} {W:WX} {st:Stmt} {f:Str} {cs:List Str} {i:Nat} {fv:Ev→Mo A}
theorem zkd (h:VS X W st (zei cs f (vVar i) fv)):VS X W st (zil cs i f fv):=by
 obtain ⟨t,p,sm⟩:=h
 refine ⟨t,p,fun G ι Ω H σ ρ D w r h=>?_⟩
 have cl:=w.clS r
 unfold zil at h
 split at h
 ·rename_i s cls fs eo
  split at h
  ·rename_i n Ω1 e1
   split at h
   ·rename_i c e2
    split at h
    ·rename_i fd e3
     split at h
     ·rename_i hc
      obtain ⟨rfl,rfl,hl,hcl⟩:=hc
      obtain ⟨h1,h2,h3⟩:=zhW eo
      have hsl:s < Ω.length:=(List.getElem?_eq_some_iff.mp h2).1
      have hcell:=Fd.zh6 e3
      refine sm G ι Ω H σ ρ D w r ?_
      have h1':(ρ[i]?).join=some (.cel s):=by rw [h1];rfl
      have h2':(Ω ++ [c])[s]? = some (.ins cls fs):=by rw [List.getElem?_append_left hsl];exact h2
      have e:zei cs f (vVar i) fv ρ Ω=some (.nx,ρ,Ω.set s (.ins cls (putD f (.val (.cel Ω.length)) fs)) ++ [c]):=by
       simp only [zei,sM,e1,vVar,need,h1',Option.map_some,h2',if_pos (And.intro h3 hl)]
       rw [List.set_append_left _ _ hsl]
      rw [e]
      intro σ' H' G' ι' ex w' r'
      have wf:=w'.fold (s:=s) (f:=f) (fd:=fd) (cls:=cls) (fs:=putD f (.val (.cel Ω.length)) fs) (List.getElem?_set_self hsl) (by rw [za0,if_pos rfl];simp) hcell (fun k x hk hx=>by
       rw [List.getElem?_set_ne (Ne.symm hk)] at hx
       have:=cl.cel k x hx
       simpa using this) (by
       rw [za4]
       have:=zcS (f:=f) (cl.cel s _ h2:ClFs _ fs) hcl
       simpa using this)
      rw [za4,List.set_set,List.length_set] at wf
      refine h σ' H' G' (ι'.take Ω.length) ⟨ex.same,fun k x q=>?_⟩ wf (zgb r' fun j d hj=>cl.env j d hj)
      have hk:=(List.getElem?_eq_some_iff.mp q).1
      rw [List.getElem?_take,if_pos (by rw [← w.len];exact hk)]
      exact ex.pre k x q
     ·exact h.elim
    ·exact h.elim
   ·exact h.elim
  ·exact h.elim
 ·exact h.elim
end
theorem zc3 {K:PySem.W.Frag} {f:Str}:zaV K [] f:=fun cls h=>by simp at h
theorem zcH {K:PySem.W.Frag} {f cls:Str} {cs:List Str} {C:Addr} (h1:PySem.W.nsIn K mainGlobals cls=some (some (.ref C))) (h2:Cls K C) (h3:PySem.W.findIn K (.ref C) f=some none) (t:zaV K cs f):zaV K (cls :: cs) f:=fun c h=>by
 rcases List.mem_cons.mp h with e | e
 ·subst e;exact ⟨C,h1,h2,h3⟩
 ·exact t c e
section
variable {P:Program} {w:World} {K:PySem.W.Frag} {mg:Str→Option Value} {base:Heap}
theorem zfj {x qual:Str} {st:Stmt} {N ps:List Str} {k:Nat} {b:MS} {f:Addr} {fd:FuncData} (F:Fun K x qual st f fd) (S:zaw N ps (zab st))
  (hbody:∀ (f:Addr) (cdv:Value) (A:Around) (outer:List Env) (s:Shared) (H:Hp) (E:XK),Room k (A.deeper (envOfC qual (zab st) s.heap.objs.size f cdv)) →
   VSs (cxX P w K mg base N qual (zab st) f cdv A outer s H E) (fun _=>E) (zal st) b):FnOk P w K mg base (CXE P w) (k + 1) f fd ps (spV K ps.length (fnF N.length b)):=by
 obtain ⟨oc,od,kV,doc,pm,an,cdv,ct,osl,rfl,lk,hcd⟩:=F.ex
 refine ziI lk hcd S (fun vs H Q E h=>h.1) fun A outer s H vs Q E hr hsp=>?_
 obtain ⟨t,p,q⟩:=hbody f cdv A outer s H E hr
 exact ⟨t,zhu p,zfh q hsp⟩
structure HasM (K:PySem.W.Frag) (mg:Str→Option Value) (cls m qual:Str) (st:Stmt):Prop where
 ex:∃ C f fd,PySem.W.nsIn K mainGlobals cls=some (some (.ref C))∧mg cls=some (.ref C)∧Cls K C∧Meth K C m f∧Fun K m qual st f fd
theorem zcx.of {cls m qual:Str} {st:Stmt} {N ps:List Str} {k:Nat} {b:MS} (h:HasM K mg cls m qual st) (S:zaw N ps (zab st))
  (bind:∀ (kV doc pm:Value) (an:Option Addr) (cdv ct:Value) (us:List Value),us.length=ps.length→bindArgs (PySem.W.fnOf m qual (zax st) (zal st) (zab st) .none kV doc pm an cdv ct) ⟨us,[]⟩ = pure (ps.zip us))
  (hbody:∀ (f:Addr) (cdv:Value) (A:Around) (outer:List Env) (s:Shared) (H:Hp) (E:XK),Room k (A.deeper (envOfC qual (zab st) s.heap.objs.size f cdv)) →
   VSs (cxX P w K mg base N qual (zab st) f cdv A outer s H E) (fun _=>E) (zal st) b):zcx P w K mg base cls m (k + 1) ps.length [] (fnF N.length b):=by
 obtain ⟨C,f,fd,h1,_,h2,h3,F⟩:=h.ex
 exact ⟨C,f,fd,ps,[],[],h1,h2,h3,rfl,zfj F S hbody,F.binds bind, .nil,fun _ _ => .nil⟩
theorem zcx.none {cls m qual:Str} {st:Stmt} {N ps:List Str} {k n:Nat} (h:HasM K mg cls m qual st) (hn:ps.length=n) (bind:∀ (kV doc pm:Value) (an:Option Addr) (cdv ct:Value) (us:List Value),us.length=ps.length→bindArgs (PySem.W.fnOf m qual (zax st) (zal st) (zab st) .none kV doc pm an cdv ct) ⟨us,[]⟩ = pure (ps.zip us)) :
  zcx P w K mg base cls m k n [] (fun _=>stuck):=by
 obtain ⟨C,f,fd,h1,_,h2,h3,F⟩:=h.ex
 exact ⟨C,f,fd,ps,[],[],h1,h2,h3,hn,⟨fun vs H Q E h=>h.1,fun A outer s H args us vs Q E hr he hb hv hs=>by obtain ⟨_,_,_,_,_,_,_,q⟩:=hs;exact q.elim⟩,F.binds bind, .nil,fun _ _ => .nil⟩
structure HasI (K:PySem.W.Frag) (mg:Str→Option Value) (cls qual:Str) (st:Stmt):Prop where
 ex:∃ C f fd,PySem.W.nsIn K mainGlobals cls=some (some (.ref C))∧mg cls=some (.ref C)∧Mk K C f∧Fun K "__init__" qual st f fd
theorem zgg.of {cls qual:Str} {st:Stmt} {N ps:List Str} {k:Nat} {b:MS} (h:HasI K mg cls qual st) (S:zaw N ps (zab st))
  (bind:∀ (kV doc pm:Value) (an:Option Addr) (cdv ct:Value) (us:List Value),us.length=ps.length→bindArgs (PySem.W.fnOf "__init__" qual (zax st) (zal st) (zab st) .none kV doc pm an cdv ct) ⟨us,[]⟩ = pure (ps.zip us))
  (hbody:∀ (f:Addr) (cdv:Value) (A:Around) (outer:List Env) (s:Shared) (H:Hp) (E:XK),Room k (A.deeper (envOfC qual (zab st) s.heap.objs.size f cdv)) →
   VSs (cxX P w K mg base N qual (zab st) f cdv A outer s H E) (fun _=>E) (zal st) b):zgg P w K mg base cls (k + 1) ps.length (fnF N.length b):=by
 obtain ⟨C,f,fd,h1,h2,h3,F⟩:=h.ex
 exact ⟨C,f,fd,ps,h1,h2,h3,rfl,zfj F S hbody,F.binds bind⟩
structure HasB (K:PySem.W.Frag) (mg:Str→Option Value) (rk m qual:Str) (st:Stmt):Prop where
 ex:∃ R f fd,mg rk=some (.ref R)∧zlO K R m f∧Fun K m qual st f fd
theorem ziu.of {rk m qual:Str} {st:Stmt} {N ps:List Str} {k:Nat} {b:MS} (h:HasB K mg rk m qual st) (S:zaw N ps (zab st))
  (bind:∀ (kV doc pm:Value) (an:Option Addr) (cdv ct:Value) (us:List Value),us.length=ps.length→bindArgs (PySem.W.fnOf m qual (zax st) (zal st) (zab st) .none kV doc pm an cdv ct) ⟨us,[]⟩ = pure (ps.zip us))
  (hbody:∀ (f:Addr) (cdv:Value) (A:Around) (outer:List Env) (s:Shared) (H:Hp) (E:XK),Room k (A.deeper (envOfC qual (zab st) s.heap.objs.size f cdv)) →
   VSs (cxX P w K mg base N qual (zab st) f cdv A outer s H E) (fun _=>E) (zal st) b):ziu P w K mg base rk m (k + 1) ps.length (fnF N.length b):=by
 obtain ⟨R,f,fd,h1,h2,F⟩:=h.ex
 exact ⟨R,f,fd,ps,h1,h2,rfl,zfj F S hbody,F.binds bind⟩
end
end V2
namespace M
open PySem V2
noncomputable def zaP:MS :=
 (sSeq (zei ["Sums"] "keep" (vVar 0) (vVar 1))
  (sSeq (zei ["Sums"] "many" (vVar 0) (cI 0))
  (zil ["Sums"] 0 "levels" (vLst true a0))))
noncomputable def zay:List A→Mo A:=fnF 2 zaP
noncomputable def zaJ:MS :=
 (sExp (vBM zeu (vVar 1) (zac (vVar 2) a0)))
noncomputable def zdY:MS :=
 (sRet (vTup (zac (vOp (gAdd false) (vOp gIx (vVar 0) (cI 0)) (vOp gIx (vVar 1) (cI 0))) (zac (vOp (gAdd false) (vOp gIx (vVar 0) (cI 1)) (vOp gIx (vVar 1) (cI 1))) (zac (vCl ziN (zac (vOp gIx (vVar 0) (cI 2)) (zac (vOp gIx (vVar 1) (cI 2)) a0))) (zac (vCl zeM (zac (vOp gIx (vVar 0) (cI 3)) (zac (vOp gIx (vVar 1) (cI 3)) a0))) a0))))))
noncomputable def zbw:List A→Mo A:=fnF 2 zdY
noncomputable def zc9:MS :=
 (sSeq (sAsg (vCl zeM (zac (cI 0) (zac (vOp (gSub) (vCl gLen (zac (vVar 0) a0)) (vVar 1)) a0))) (gN 3))
  (sRet (vCl ziN (zac (vVar 2) (zac (vCl zeM (zac (vVar 3) (zac (vOp (gMod) (vCl (zaH 2 zaA) (zac (vVar 0) (zac (vOp (gSub) (vVar 1) (cI 1)) a0))) (vOp (gAdd false) (vVar 2) (cI 1))) a0))) a0)))))
noncomputable def zbp:List A→Mo A:=fnF 4 zc9
noncomputable def zbQ:MS :=
 (sSeq (sAsg (vCl zeM (zac (cI 0) (zac (vOp (gSub) (vCl gLen (zac (vVar 0) a0)) (vVar 1)) a0))) (gN 3))
  (sRet (vCl (zaH 2 zaL) (zac (vCl (zaH 2 zaA) (zac (vVar 0) (zac (vOp (gAdd false) (vVar 1) (vOp (gMod) (vVar 2) (vCl zeM (zac (cI 1) (zac (vVar 3) a0))))) a0))) (zac (vVar 2) a0)))))
noncomputable def zbk:List A→Mo A:=fnF 4 zbQ
noncomputable def zbf (self:List A→Mo A):MS :=
 (sSeq (sIf (zaW (vOp gEq (vVar 2) (zfs ["Sums"] 0 "levels")))
   (sExp (zeS ["Sums"] 0 "levels"))
   sNx)
  (sSeq (sAsg (vFIx ["Sums"] 0 "levels" (vVar 2)) (gN 3))
  (sSeq (sExp (vBM zcN (vVar 3) (zac (vVar 1) a0)))
  (sIf (zaW (vOp gGt (vCl gLen (zac (vVar 3) a0)) (vFld ["Sums"] "keep" (vVar 0))))
   (sSeq (sAsg (vSl true (vVar 3) (zfe (cI 2)) sl0) (zh3 ["Sums"] 0 "levels" (vVar 2)))
   (sExp (zdL "lay" [("Sums",zcJ 3 [] self)] (vVar 0) (zac (vCl (zaH 2 zbw) (zac (vOp gIx (vVar 3) (cI 0)) (zac (vOp gIx (vVar 3) (cI 1)) a0))) (zac (vOp (gAdd false) (vVar 2) (cI 1)) a0)))))
   sNx))))
noncomputable def zaB:Nat→List A→Mo A
 | 0=>fun _=>stuck
 | n + 1=>fnF 4 (zbf (zaB n))
noncomputable def zcw:MS :=
 (sSeq (zei ["Sums"] "many" (vVar 0) (vOp (gAdd false) (vFld ["Sums"] "many" (vVar 0)) (cI 1)))
  (sExp (zdL "lay" [("Sums",zcJ 3 [] (zaB 12))] (vVar 0) (zac (vTup (zac (cI 1) (zac (vVar 1) (zac (vVar 1) (zac (vVar 1) a0))))) (zac (cI 0) a0)))))
noncomputable def zbg:List A→Mo A:=fnF 2 zcw
end M
namespace V2
open PySem PySem.Spec PyProof.Rows L2
def cntI (i:Int) (ns:List Int):Nat:=ns.countP fun n=>n == i
def ixI (i:Int) (ns:List Int):Option Nat:=ns.findIdx? fun n=>n == i
theorem zix {i:Int}:∀ {ns:List Int} {its:List Value},Vals (ns.map V.int) its→its.countP (eqI i)=cntI i ns:=by
 intro ns
 induction ns with
 | nil=>intro its r;cases r;rfl
 | cons n ns ih =>
  intro its r
  cases r with
  | cons r1 r2 =>
   obtain ⟨t,rfl⟩:=r1
   simp only [cntI,List.countP_cons,ih r2,eqI]
   rfl
theorem zgA {i:Int}:∀ {ns:List Int} {its:List Value},Vals (ns.map V.int) its→∀ j (h:j < its.length),∃ h':j < ns.length,eqI i its[j]=(ns[j] == i):=by
 intro ns
 induction ns with
 | nil=>intro its r;cases r;intro j h;simp at h
 | cons n ns ih =>
  intro its r
  cases r with
  | cons r1 r2 =>
   obtain ⟨t,rfl⟩:=r1
   intro j h
   cases j with
   | zero=>exact ⟨by simp,rfl⟩
   | succ j =>
    obtain ⟨h',e⟩:=ih r2 j (by simpa using h)
    exact ⟨by simp;omega,by simpa using e⟩
def ziU:V→List V→Hp→VK→Prop:=fun x vs H Q=>∃ l i,∃ ns:List Int,x = .ref l∧vs=[.int i]∧H l=some (.lst (ns.map V.int))∧Q (.int (cntI i ns:Nat)) H
theorem zh4 {X:Cx}:MtM X "list.count" ziU:=by
 intro pins s σ H x vs v us Q I rx rv h
 obtain ⟨l,i,ns,rfl,rfl,hH,q⟩:=h
 cases rx
 obtain ⟨u,rfl,ru⟩:=rv.one
 obtain ⟨t,rfl⟩:=ru
 obtain ⟨z,its,n,r,hl,e⟩:=I.lstM hH
 refine call_meets PySem.F.slot_list_count ⟨_,e,rfl⟩ PySem.F.entry_list_count (PySem.F.args_list_count_2 _ _) (MeetsSeq.list_count l its.toArray n (.int i t) (eqI i) (fun y hy=>?_)) ⟨e,?_⟩
 ·obtain ⟨j,t',rfl⟩:=zfL r y (by simpa using hy)
  exact MeetsSeq.EqGives.int j i t' t
 ·exact ⟨.int (cntI i ns:Nat),H,I.tok _,⟨s.toks,by rw [← zix r]⟩,q⟩
def zi0:V→List V→Hp→VK→Prop:=fun x vs H Q=>∃ l i j,∃ ns:List Int,x = .ref l∧vs=[.int i]∧H l=some (.lst (ns.map V.int))∧ixI i ns=some j∧Q (.int (j:Nat)) H
theorem ziA {X:Cx}:MtM X "list.index" zi0:=by
 intro pins s σ H x vs v us Q I rx rv h
 obtain ⟨l,i,j,ns,rfl,rfl,hH,hj,q⟩:=h
 cases rx
 obtain ⟨u,rfl,ru⟩:=rv.one
 obtain ⟨t,rfl⟩:=ru
 obtain ⟨z,its,n,r,hl,e⟩:=I.lstM hH
 obtain ⟨h1,h2,h3⟩:=List.findIdx?_eq_some_iff_getElem.mp hj
 have hlen:its.length=ns.length:=by have:=r.length;simpa using this.symm
 have hj':j < its.length:=by omega
 refine call_meets PySem.F.slot_list_index ⟨_,e,rfl⟩ PySem.F.entry_list_index (PySem.F.args_list_index_2 _ _) (MeetsSeq.list_index l its.toArray n (.int i t) (eqI i) (fun y hy=>?_) j (by simpa using hj') (by
   have h9:sizeLine=16777216:=sizeLine_eq
   rw [List.length_map] at z
   omega) ?_ ?_) ⟨e,?_⟩
 ·obtain ⟨k,t',rfl⟩:=zfL r y (by simpa using hy)
  exact MeetsSeq.EqGives.int k i t' t
 ·obtain ⟨_,e2⟩:=zgA (i:=i) r j hj'
  simpa [e2] using h2
 ·intro m hm hmj
  obtain ⟨_,e2⟩:=zgA (i:=i) r m (by simpa using hm)
  have:=h3 m hmj
  simpa [e2] using this
 ·exact ⟨.int (j:Nat),H,I.tok _,⟨_,rfl⟩,q⟩
section
variable {X:Cx} {W:WX}
theorem zhP {K:PySem.W.Frag} {G H:Hp} {ι:List Addr} {Ω:Sto} {v:V} {a:A} {ns:List Int} (w:Wd K G ι Ω H) (d:Den K G ι v a) (h:(zbb Ω a).bind intsOf=some ns):∃ p,v = .ref p∧H p=some (.lst (ns.map V.int)):=by
 rw [Option.bind_eq_some_iff] at h
 obtain ⟨ds,e1,e2⟩:=h
 obtain ⟨p,ys,rfl,h2,h3⟩:=zdV w d e1
 rw [zcb e2 h3] at h2
 exact ⟨p,rfl,h2⟩
@[simp] def zhx (o:A) (as:List A):Mo A:=fun Ω=>match (zbb Ω o).bind intsOf,as with
 | some ns,[.int i]=>some (.ok (.int (cntI i ns:Nat)),Ω)
 | _,_=>none
theorem zjJ:MtV X.K W ziU zhx:=by
 intro G ι Ω H σ x xs a as Q w d1 d2 h
 unfold zhx at h
 split at h
 ·rename_i ns i e
  obtain ⟨p,rfl,hp⟩:=zhP w d1 e
  obtain ⟨u,rfl,du⟩:=den1 d2
  simp only [Den] at du;subst du
  exact ⟨p,i,ns,rfl,rfl,hp,h _ H G ι (Ext.refl _ _) w (by simp only [Den])⟩
 ·exact False.elim h
@[simp] def zhN (o:A) (as:List A):Mo A:=fun Ω=>match (zbb Ω o).bind intsOf,as with
 | some ns,[.int i]=>match ixI i ns with
  | some j=>some (.ok (.int (j:Nat)),Ω)
  | none=>none
 | _,_=>none
theorem zjp:MtV X.K W zi0 zhN:=by
 intro G ι Ω H σ x xs a as Q w d1 d2 h
 unfold zhN at h
 split at h
 ·rename_i ns i e
  split at h
  ·rename_i j hj
   obtain ⟨p,rfl,hp⟩:=zhP w d1 e
   obtain ⟨u,rfl,du⟩:=den1 d2
   simp only [Den] at du;subst du
   exact ⟨p,i,j,ns,rfl,rfl,hp,hj,h _ H G ι (Ext.refl _ _) w (by simp only [Den])⟩
  ·exact False.elim h
 ·exact False.elim h
end
def Itz (K:PySem.W.Frag) (a b:Addr):It :=
 ⟨fun i H=>∃ xs ys x y,SqL K H a xs∧SqL K H b ys∧xs[i]? = some x∧ys[i]? = some y,fun i H x H'=>∃ p y z,H p=none∧H'=upd H p (.tup [y,z])∧x = .ref p∧(∀ xs,SqL K H a xs→xs[i]? = some y)∧(∀ ys,SqL K H b ys→ys[i]? = some z),
  fun i H=>∃ xs ys,SqL K H a xs∧SqL K H b ys∧(xs.length ≤ i∨ys.length ≤ i)⟩
theorem Inv.zhy {X:Cx} {pins:List (Addr × Obj)} {σ:L2.St} {H:Hp} {s:Shared} {h':Heap} {t':Nat} {ch:List Addr} (I:Inv X pins σ H s) (k:∀ b o,b ∉ ch→s.heap.get? b=some o→h'.get? b=some o) (hf:∀ b ∈ ch,FpOk X pins H b):Inv X pins σ H { s with heap:=h',toks:=t' }:=by
 have ne:∀ b u,H b=some u→b ∉ ch:=fun b u q z=>by rw [(hf b z).1] at q;cases q
 refine I.step (g':=s.gens) (d':=s.drawn) (ch:=ch) (fun b hb=>?_) (fun b o _ _ hc q _=>k b o hc q) (fun b o _ _ hc q _=>⟨o.slots,k b o hc q⟩) (fun _ _ _ _ n=>n)
  (fun b o hc q=>⟨o,k b o hc q⟩) (fun _ _ q=>q) (fun _ _ _ q=>q) (fun b ps q=>⟨#[],by rw [q];simp⟩) (fun m hm=>?_) (fun b u q=>?_) I.bare
 ·obtain ⟨a0,a1,a2,a3,a4,a5⟩:=hf b hb
  exact ⟨a3,a1,a4,a5⟩
 ·obtain ⟨o,es,ep,ho,r⟩:=hm
  exact ⟨o,es,ep,k _ o (fun z=>(hf _ z).2.1 rfl) ho,r⟩
 ·refine (I.hok b u q).stay (fun c v hc q'=>k c v ?_ q') (fun _ q=>q) fun _ _ q=>q
  rcases hc with z | z
  ·rw [z];exact ne b u q
  ·exact ne c _ z
theorem zc7 {h:Heap} {x y:Addr} {o1 o2:Obj} (h1:h.get? x=some o1) (h2:h.get? y=some o2) (hc:o1.cls ≠ o2.cls):x ≠ y:=fun e=>by
 subst e;rw [h1] at h2;cases h2;exact hc rfl
theorem zeG {h:Heap} {a b z TI TO i1 i2:Addr} {xs ys:Array Value} {u v:Value} {i:Nat} (hd : [z,TI,TO,i1,i2].Nodup) (hz:IsZip h z TI TO .none) (hTO:IsPair h TO u v) (h1:h.IsListIter i1 a i) (h2:h.IsListIter i2 b i) (l1:h.IsList a xs) (l2:h.IsList b ys):ZipApart z TI TO i1 i2 a b:=by
 obtain ⟨o1,q1,c1,d1⟩:=h1
 obtain ⟨o2,q2,c2,d2⟩:=h2
 obtain ⟨p1,r1,e1,_⟩:=l1
 obtain ⟨p2,r2,e2,_⟩:=l2
 simp only [List.nodup_cons,List.mem_cons,List.not_mem_nil,or_false,not_or,not_false_eq_true,List.nodup_nil,and_true] at hd
 obtain ⟨⟨n1,n2,n3,n4⟩,⟨n5,n6,n7⟩,⟨n8,n9⟩,n10⟩:=hd
 exact ⟨Ne.symm n1,Ne.symm n2,Ne.symm n3,Ne.symm n4,n5,n6,n7,n8,n9,n10,
  zc7 r1 hz (by rw [e1];show Value.type "list" ≠ Value.type "zip";decide),zc7 r1 hTO (by rw [e1];show Value.type "list" ≠ Value.type "tuple";decide),zc7 r1 q1 (by rw [e1,c1];decide),zc7 r1 q2 (by rw [e1,c2];decide),
  zc7 r2 hz (by rw [e2];show Value.type "list" ≠ Value.type "zip";decide),zc7 r2 hTO (by rw [e2];show Value.type "list" ≠ Value.type "tuple";decide),zc7 r2 q1 (by rw [e2,c1];decide),zc7 r2 q2 (by rw [e2,c2];decide)⟩
theorem zio {P:Program} {w:World} {K:PySem.W.Frag} {elts:List Expr} {x1:Nat} {tp:Pos} (a b z TI TO i1 i2:Addr) (hd : [z,TI,TO,i1,i2].Nodup) :
  Turn P w K (.Tuple elts x1 tp) (Itz K a b) [z,TI,TO,i1,i2] z (fun i h=>IsZip h z TI TO .none∧IsPair h TI (.ref i1) (.ref i2)∧(∃ u v,IsPair h TO u v)∧h.IsListIter i1 a i∧h.IsListIter i2 b i) where
 mem:=by simp
 obj:=fun i h st c hc=>by
  obtain ⟨s1,s2,⟨u,v,s3⟩,⟨o1,q1,c1,d1⟩,⟨o2,q2,c2,d2⟩⟩:=st
  simp only [List.mem_cons,List.not_mem_nil,or_false] at hc
  rcases hc with e | e | e | e | e <;> subst e
  ·exact ⟨_,s1,fun v z=>by cases z⟩
  ·exact ⟨_,s2,fun v z=>by cases z⟩
  ·exact ⟨_,s3,fun v z=>by cases z⟩
  ·exact ⟨o1,q1,fun v z=>by rw [d1] at z;cases z⟩
  ·exact ⟨o2,q2,fun v z=>by rw [d2] at z;cases z⟩
 keep:=fun i h h' st k=>⟨k z (by simp) _ st.1,k TI (by simp) _ st.2.1,let ⟨u,v,q⟩:=st.2.2.1; ⟨u,v,k TO (by simp) _ q⟩,st.2.2.2.1.at fun o q=>k i1 (by simp) o q,st.2.2.2.2.at fun o q=>k i2 (by simp) o q⟩
 item:=by
  intro X hP hw hK hc i pins s σ H E I hf st hg
  subst hP hw hK
  obtain ⟨s1,s2,⟨u0,v0,s3⟩,s4,s5⟩:=st
  obtain ⟨xs,ys,x,y,hq1,hq2,hx,hy⟩:=hg
  obtain ⟨its1,rv1,p1,_⟩:=I.list hq1
  obtain ⟨its2,rv2,p2,_⟩:=I.list hq2
  obtain ⟨u,hu,ru⟩:=rv1.get hx
  obtain ⟨v,hv,rv⟩:=rv2.get hy
  have D:=zeG hd s1 s3 s4 s5 p1.isList p2.isList
  have hsz:z < s.heap.objs.size:=Heap.lt_size s1
  have hst:TO < s.heap.objs.size:=Heap.lt_size s3
  have hsT:TI < s.heap.objs.size:=Heap.lt_size s2
  have hs1:i1 < s.heap.objs.size:=let ⟨_,q,_⟩:=s4;Heap.lt_size q
  have hs2:i2 < s.heap.objs.size:=let ⟨_,q,_⟩:=s5;Heap.lt_size q
  refine wpAny_pyNext_zip_item D s1 s2 s3 s4 s5 p1.isList p2.isList (x:=u) (y:=v) (by simpa using hu) (by simpa using hv) fun h1 a1 a2 a3 a4 a5 a6 a7=>?_
  refine ⟨_,rfl,wpAny_letOwnedTupleGo_zip (s:={ s with heap:=h1 }) a1 fun h2 e2 sb=>?_⟩
  have hp0:H s.heap.objs.size=none:=I.hok.fresh (Nat.le_refl _)
  have k2:∀ c o,c ∉ [z,TO,i1,i2]→s.heap.get? c=some o→h2.get? c=some o:=fun c o hc q=>by
   simp only [List.mem_cons,List.not_mem_nil,or_false,not_or] at hc
   exact sb.extBut c o hc.1 (a7 c o hc.1 hc.2.1 hc.2.2.1 hc.2.2.2 q)
  have hf':∀ c ∈ [z,TO,i1,i2],FpOk X pins H c:=fun c hc=>hf c (by
   simp only [List.mem_cons,List.not_mem_nil,or_false] at hc ⊢
   rcases hc with e | e | e | e <;> simp [e])
  have t2:h2.get? s.heap.objs.size=some { cls := .type "tuple",data := .seq #[u,v] }:=sb.extBut _ _ (Nat.ne_of_gt hsz) a5
  have I1:Inv X pins σ H { s with heap:=h2 }:=Inv.zhy (t':=s.toks) I k2 hf'
  have hok:HOk X.prog X.w (upd H s.heap.objs.size (.tup [x,y])) h2:=by
   refine fun b o q=>?_
   by_cases eb:b=s.heap.objs.size
   ·subst eb
    rw [zaq] at q
    cases q
    exact ⟨by show 2 ≤ sizeLine;decide,[u,v], .cons ru (.cons rv .nil),⟨_,t2,rfl,_,rfl⟩⟩
   ·rw [zai eb] at q
    exact (I1.hok b o q).stay (fun c v _ z=>z) (fun c z=>by rw [zai (zau z hp0)];exact z) fun c xs z=>by rw [zai (zau z hp0)];exact z
  have fp:FpOk X pins H s.heap.objs.size:=I.fpOk (Nat.le_refl _) hp0
  have h0:X.s₀.heap.get? s.heap.objs.size=none:=by
   cases q:X.s₀.heap.get? s.heap.objs.size with
   | none=>rfl
   | some ob=>exact absurd (Nat.lt_of_lt_of_le (Heap.lt_size q) I.sz) (Nat.lt_irrefl _)
  have I2:Inv X pins σ (upd H s.heap.objs.size (.tup [x,y])) { s with heap:=h2 }:=Inv.zmC I1 hp0 h0 fp.2.1 fp.2.2.2.2.1 fp.2.2.2.2.2 hok
  refine ⟨.ref s.heap.objs.size,_,I2,rfl,⟨_,x,y,hp0,rfl,rfl,fun ys hy=>by rw [I.zdl hy hq1];exact hx,fun zs hz=>by rw [I.zdl hz hq2];exact hy⟩,
   ⟨e2,k2 TI _ (by simp only [List.mem_cons,List.not_mem_nil,or_false,not_or];exact ⟨D.TIz,D.TITO,D.TIi1,D.TIi2⟩) s2,⟨u,v,sb.extBut _ _ D.TOz a2⟩,a3.extBut sb.extBut D.i1z,a4.extBut sb.extBut D.i2z⟩,fun c hc=>?_⟩
  have hc2:=(hf c hc).1
  have hlt:c < s.heap.objs.size:=by
   simp only [List.mem_cons,List.not_mem_nil,or_false] at hc
   rcases hc with e | e | e | e | e <;> subst e <;> assumption
  rw [zai (Nat.ne_of_lt hlt)];exact hc2
 done:=by
  intro X hP hw hK hc i pins s σ H E I hf st hg
  subst hP hw hK
  obtain ⟨s1,s2,⟨u0,v0,s3⟩,s4,s5⟩:=st
  obtain ⟨xs,ys,hq1,hq2,hx⟩:=hg
  obtain ⟨its1,rv1,p1,_⟩:=I.list hq1
  obtain ⟨its2,rv2,p2,_⟩:=I.list hq2
  have D:=zeG hd s1 s3 s4 s5 p1.isList p2.isList
  have l1:=rv1.length
  have l2:=rv2.length
  have hf':∀ c ∈ [z,TO,i1,i2],FpOk X pins H c:=fun c hc=>hf c (by
   simp only [List.mem_cons,List.not_mem_nil,or_false] at hc ⊢
   rcases hc with e | e | e | e <;> simp [e])
  refine wpAny_pyNext_zip_end (I.ok.hd hc) D s1 s2 s3 s4 s5 p1.isList p2.isList (by
   rcases hx with q | q
   ·left;simp;omega
   ·right;simp;omega) fun h' hk=>⟨rfl,Inv.zhy (t':=s.toks) I (fun c o hc q=>by
    simp only [List.mem_cons,List.not_mem_nil,or_false,not_or] at hc
    exact hk c o hc.1 hc.2.1 hc.2.2.1 hc.2.2.2 q) hf'⟩
 self:=fun _ _ _ _ _ st h=>wpAny_pyIter_zip st.1 h
section
variable {X:Cx} {W:WX} {pos:Pos}
theorem zkY {elts:List Expr} {x1:Nat} {tp p:Pos} {l l2:Expr} {tl tl2:TE} (hg:Gl X "zip") (hm:X.mg "zip" = none) (hl:PE X l tl) (hl2:PE X l2 tl2) (hs:starEach [l,l2] X.env=(false,eval l X.env) :: starEach [l2] X.env:=by rfl) (hs2:starEach [l2] X.env=[(false,eval l2 X.env)]:=by rfl) :
  PI X (.Tuple elts x1 tp) (.Call (.Name "zip" p) [l,l2] [] pos) (fun σ H R=>tl σ H fun x H1=>tl2 σ H1 fun y H2=>∃ a b,x = .ref a∧y = .ref b∧(∃ xs,SqL X.K H2 a xs)∧(∃ ys,SqL X.K H2 b ys)∧R (Itz X.K a b) H2):=by
 intro pins s σ H R I h
 refine wpAny_Call_Name_kw (zdT I hg hm boot_zip ?_)
 refine PyProof.Rows.callWith_type1 (thn (zdy hl (zdy hl2 ze7 hs2) hs pos pins s σ H (fun vs H1=>match vs with
  | [x,y]=>∃ a b,x=V.ref a∧y=V.ref b∧(∃ xs,SqL X.K H1 a xs)∧(∃ ys,SqL X.K H1 b ys)∧R (Itz X.K a b) H1
  | _=>False) I h) fun us s1 ⟨vs,H1,I1,r1,q1⟩=>?_) hs (by rw [hs2];rfl)
 match vs,q1 with
 | [x,y],q1 =>
 obtain ⟨a,b,e1,e2,⟨xs,hq⟩,⟨ys,hq2⟩,q⟩:=q1
 obtain ⟨u,v,rfl,ru,rv⟩:=vals2 r1
 subst e1 e2
 cases ru
 cases rv
 obtain ⟨its,rv1,pl,_⟩:=I1.list hq
 obtain ⟨its2,rv2,pl2,_⟩:=I1.list hq2
 refine call_zip_2 pl.isList pl2.isList fun h' g1 g2 g3 g4 g5 hsz hk=>?_
 refine wpAny_pyIter_zip (s:={ s1 with heap:=h' }) g1 ?_
 have I2:Inv X pins σ H1 { s1 with heap:=h' }:=I1.kept (t':=s1.toks) hk
 have hle:∀ c ∈ [s1.heap.objs.size + 4,s1.heap.objs.size + 2,s1.heap.objs.size + 3,s1.heap.objs.size,s1.heap.objs.size + 1],s1.heap.objs.size ≤ c:=fun c hc=>by
  simp only [List.mem_cons,List.not_mem_nil,or_false] at hc
  rcases hc with e | e | e | e | e <;> subst e <;> omega
 refine ⟨_,[s1.heap.objs.size + 4,s1.heap.objs.size + 2,s1.heap.objs.size + 3,s1.heap.objs.size,s1.heap.objs.size + 1],_,_,H1,rfl,I2,zio a b _ _ _ _ _ (by simp),⟨g1,g2,⟨_,_,g3⟩,g4,g5⟩,fun c hc=>?_,q⟩
 exact I1.fpOk (hle c hc) (I1.hok.fresh (hle c hc))
def zipA:List A→List A→List A
 | x :: xs,y :: ys => .tup [x,y] :: zipA xs ys
 | _,_=>[]
theorem zip_get:∀ (i:Nat) (xs ys:List A),(zipA xs ys)[i]? = match xs[i]?,ys[i]? with | some x,some y=>some (.tup [x,y]) | _,_=>none
 | _,[],ys=>by simp [zipA]
 | i,x :: xs,[]=>by cases h:(x :: xs)[i]? <;> simp [zipA]
 | 0,x :: xs,y :: ys=>by simp [zipA]
 | i + 1,x :: xs,y :: ys=>by simpa [zipA] using zip_get i xs ys
theorem zff:∀ (xs ys:List A),(zipA xs ys).length=min xs.length ys.length
 | [],ys=>by simp [zipA]
 | x :: xs,[]=>by simp [zipA]
 | x :: xs,y :: ys=>by simp [zipA,zff xs ys]
def zipSrc (a b:A) (ds es:List A):Src:=⟨zipA ds es,fun Ω=>zaj Ω a=some ds∧zaj Ω b=some es⟩
@[simp] def vZip (f g:Ev→Mo A):Ev→Mo Src:=fun ρ=>mb (f ρ) fun a=>mb (g ρ) fun b Ω=>match zaj Ω a,zaj Ω b with
 | some ds,some es=>some (.ok (zipSrc a b ds es),Ω)
 | _,_=>none
theorem zke {K:PySem.W.Frag} {G:Hp} {ι:List Addr} {p p2:Addr} {a b:A} {ds es:List A} (d:Den K G ι (.ref p) a) (d2:Den K G ι (.ref p2) b):ItV K G ι (Itz K p p2) (zipSrc a b ds es):=by
 have key:∀ {a:A} {p:Addr} {ds:List A},Den K G ι (.ref p) a→∀ G' ι' Ω' H',Ext G ι G' ι'→Wd K G' ι' Ω' H'→zaj Ω' a=some ds→∃ xs,SqL K H' p xs∧DenL K G' ι' xs ds:=fun d G' ι' Ω' H' e w h=>by
  obtain ⟨q,xs,h1,h2,h3⟩:=zaD w (d.ext e) h
  cases h1
  exact ⟨xs,h2,h3⟩
 refine ⟨fun G' ι' Ω' H' e w h i hi=>?_,fun G' ι' Ω' H' e w h i hi=>?_,fun G' ι' Ω' H' e w h i x H2 y hy hd=>?_⟩
 ·obtain ⟨xs,h2,h3⟩:=key d G' ι' Ω' H' e w h.1
  obtain ⟨ys,h4,h5⟩:=key d2 G' ι' Ω' H' e w h.2
  have hl:i < min ds.length es.length:=by rw [← zff];exact hi
  have l1:i < xs.length:=by rw [h3.length];omega
  have l2:i < ys.length:=by rw [h5.length];omega
  exact ⟨xs,ys,xs[i],ys[i],h2,h4,List.getElem?_eq_getElem l1,List.getElem?_eq_getElem l2⟩
 ·obtain ⟨xs,h2,h3⟩:=key d G' ι' Ω' H' e w h.1
  obtain ⟨ys,h4,h5⟩:=key d2 G' ι' Ω' H' e w h.2
  have hl:min ds.length es.length ≤ i:=by rw [← zff];exact hi
  exact ⟨xs,ys,h2,h4,by rw [h3.length,h5.length];omega⟩
 ·obtain ⟨xs,h2,h3⟩:=key d G' ι' Ω' H' e w h.1
  obtain ⟨ys,h4,h5⟩:=key d2 G' ι' Ω' H' e w h.2
  obtain ⟨q,z,z2,e1,e2,e3,e4,e5⟩:=hd
  subst e2 e3
  have hy':(zipA ds es)[i]? = some y:=hy
  rw [zip_get] at hy'
  cases ed:ds[i]? with
  | none=>rw [ed] at hy';cases hy'
  | some d' =>
   cases ee:es[i]? with
   | none=>rw [ed,ee] at hy';cases hy'
   | some d'' =>
    rw [ed,ee] at hy'
    cases hy'
    obtain ⟨z',q1,q2⟩:=h3.get ed
    rw [e4 xs h2] at q1
    cases q1
    obtain ⟨z'',q3,q4⟩:=h5.get ee
    rw [e5 ys h4] at q3
    cases q3
    refine ⟨upd G' q (.tup [z,z2]),Ext.new (w.zdc e1) _,w.new e1 _,?_⟩
    simp only [Den]
    exact ⟨q,[z,z2],rfl,zaq, .cons (q2.ext (Ext.new (w.zdc e1) _)) (.cons (q4.ext (Ext.new (w.zdc e1) _)) .nil)⟩
theorem zlh {elts:List Expr} {x1:Nat} {tp p:Pos} {l l2:Expr} {fe fe2:Ev→Mo A} (hg:Gl X "zip") (hm:X.mg "zip" = none) (h:VE X W l fe) (h2:VE X W l2 fe2) (hs:starEach [l,l2] X.env=(false,eval l X.env) :: starEach [l2] X.env:=by rfl) (hs2:starEach [l2] X.env=[(false,eval l2 X.env)]:=by rfl) :
  VI X W (.Tuple elts x1 tp) (.Call (.Name "zip" p) [l,l2] [] pos) (vZip fe fe2):=by
 obtain ⟨t,p,s⟩:=h
 obtain ⟨t2,p2,s2⟩:=h2
 refine ⟨_,zkY hg hm p p2 hs hs2,fun G ι Ω H σ ρ R w r h=>?_⟩
 refine s G ι Ω H σ ρ _ w r (Post.mb h fun a Ω1 v H1 G1 ι1 x1 w1 d1 h1=>?_)
 refine s2 G1 ι1 Ω1 H1 σ ρ _ w1 (r.ext x1) (Post.mb h1 fun b Ω2 v2 H2 G2 ι2 x2 w2 d2 h3=>?_)
 cases e:zaj Ω2 a with
 | none=>simp only [e] at h3;exact False.elim h3
 | some ds =>
  cases e2:zaj Ω2 b with
  | none=>simp only [e,e2] at h3;exact False.elim h3
  | some es =>
   simp only [e,e2] at h3
   obtain ⟨q,xs,g1,g2,g3⟩:=zaD w2 (d1.ext x2) e
   obtain ⟨q2,ys,g4,g5,g6⟩:=zaD w2 d2 e2
   subst g1 g4
   exact ⟨q,q2,rfl,rfl,⟨xs,g2⟩,⟨ys,g5⟩,h3 _ H2 G2 ι2 (Ext.refl _ _) w2 (zke (d1.ext x2) d2)⟩
end
end V2
namespace V2
open PySem PySem.Spec PyProof.Rows L2
section
variable {X:Cx} {W:WX}
theorem zgZ (hc:X.calm=true):zcI X (.builtin "min") (fun xs H Q=>∃ (a:Addr) (ns:List Int),xs=[.ref a]∧SqL X.K H a (ns.map V.int)∧ns ≠ []∧Q (.int (minL ns)) H):=by
 intro pins s σ H xs us Q I r h
 obtain ⟨a,ns,rfl,hq,hne,q⟩:=h
 obtain ⟨u,rfl,ru⟩:=vals1 r
 cases ru
 obtain ⟨its,rv,pl,hz⟩:=I.list hq
 have hi:IntsAre its ns:=intsAre_of rv
 have hl:=pl.isList
 obtain ⟨ys,e⟩:=hi.allInts.items
 have hns:ns=ys.toList.map (·.1):=by rw [← hi.numsOf,← nums_intItems,← e]
 have hsz:0 < ys.size:=by
  have h3:0 < ns.length:=List.length_pos_iff.mpr hne
  rw [hns,List.length_map,Array.length_toList] at h3;exact h3
 rw [e] at hl
 refine min_intList (I.ok.hd hc) hl hsz fun v h' tk hv hk=>?_
 obtain ⟨t,rfl⟩:=intItems_at hv
 obtain ⟨h1,h2⟩:=argBest_lt (numAt ys) (ys.size - 1)
 have hM:numAt ys (argBest (fun i j=>decide (numAt ys i < numAt ys j)) (ys.size - 1))=minL ns:=zds (by
  rw [hns,numAt_eq,List.getD_eq_getElem?_getD,List.getElem?_eq_getElem (by rw [List.length_map,Array.length_toList];omega)]
  exact List.getElem_mem _) fun a ha=>by
  rw [hns] at ha
  obtain ⟨j,hj,rfl⟩:=mem_getD ha
  rw [List.length_map,Array.length_toList] at hj
  rw [← numAt_eq];exact h2 j (by omega)
 exact ⟨.int (minL ns),H,I.kept hk,⟨t,by rw [hM]⟩,q⟩
@[simp] def zjG (as:List A):Mo A:=fun Ω=>match as with
 | [a]=>(match (zaj Ω a).bind intsOf with
  | some ns=>if ns=[] then none else some (.ok (.int (minL ns)),Ω)
  | none=>none)
 | _=>none
theorem zll (hc:X.calm=true):zcA X W (.builtin "min") zjG:=by
 refine ⟨_,zgZ hc,?_⟩
 intro G ι Ω H σ xs as Q w d h
 unfold zjG at h
 split at h
 ·rename_i a
  split at h
  ·rename_i ns e
   split at h
   ·exact False.elim h
   ·rename_i hne
    obtain ⟨x,rfl,d1⟩:=den1 d
    rw [Option.bind_eq_some_iff] at e
    obtain ⟨ds,e1,e2⟩:=e
    obtain ⟨p,ys,rfl,h2,h3⟩:=zaD w d1 e1
    rw [zcb e2 h3] at h2
    exact ⟨p,ns,rfl,h2,hne,h _ H G ι (Ext.refl _ _) w (by simp only [Den])⟩
  ·exact False.elim h
 ·exact False.elim h
end
end V2
namespace M
open PySem V2
noncomputable def zbD:MS :=
 (sExp (vBM zeu (vVar 1) (zac (vVar 2) a0)))
noncomputable def zaY:MS :=
 (sSeq (sAsg (vLst true a0) (gN 1))
  (sSeq (zhm 0 "levels" (sFor (zhI (vFld ["Sums"] "levels" (vVar 0))) (gN 2) zbD))
  (sRet (vVar 1))))
noncomputable def zaK:List A→Mo A:=fnF 3 zaY
noncomputable def zbE:MS :=
 (sSeq (sAsg (vBM zhN (vVar 2) (zac (vVar 4) a0)) (gN 5))
    (sSeq (sAsg (vOp (gAdd true) (vOp (gAdd false) (vSl false (vVar 2) sl0 (zfe (vVar 5))) (vLst false (zac (vOp (gMul) (cI 2) (vVar 4)) a0))) (vSl false (vVar 2) (zfe (vOp (gAdd false) (vVar 5) (cI 2))) sl0)) (gN 2))
    (sAsg (vOp (gMul) (cI 2) (vVar 4)) (gN 4))))
noncomputable def zaE:Ev→Mo Bool :=
 (zaW (vOp gGt (vBM zhx (vVar 2) (zac (vVar 4) a0)) (vVar 0)))
noncomputable def zbG:MS :=
 (sSeq (sExp (vBM zcN (vVar 2) (zac (cI 1) a0)))
   (sSeq (sAsg (cI 1) (gN 4))
   (fun ρ Ω=>zbM zaE zbE ((fun _ _=>1000000) ρ Ω) ρ Ω)))
noncomputable def zbJ:MS :=
 (sSeq (sAsg (vLst true a0) (gN 2))
  (sSeq (sFor (ze3 (zac (vVar 1) a0)) (gN 3) zbG)
  (sRet (vFrz 2))))
noncomputable def zaR:List A→Mo A:=fnF 6 zbJ
noncomputable def za5:Ev→Mo A :=
 (vLC false 1 [] (vSeq (vVar 5)) (gN 0) (vOrT (zeX (zaW (vCl gIs1 (zac (vVar 0) (zac (cT "int") a0))))) (zaW (vCl gIs1 (zac (vVar 0) (zac (cT "bool") a0))))) (vVar 0))
noncomputable def zaN:MS :=
 (sSeq (sAsg (vSl false (vVar 1) (zfe (vVar 4)) (zfe (vOp (gAdd false) (vVar 4) (vVar 6)))) (gN 7))
   (sSeq (sIf (vOrT (zeX (zaW (vCl gIs1 (zac (vVar 5) (zac (cT "tuple") a0))))) (zaW (vOp gNe (vVar 5) (vTup (zac (vVar 6) (zac (vCl gSum (zac (vVar 7) a0)) (zac (vCl zjG (zac (vVar 7) a0)) (zac (vCl zku (zac (vVar 7) a0)) a0))))))))
    (sRet (cB false))
    sNx)
   (sSeq (sIf (zaW (vOp gNe za5 (vLst false a0)))
    (sRet (cB false))
    sNx)
   (sAsg (vOp (gAdd false) (vVar 4) (vVar 6)) (gN 4)))))
noncomputable def za7:MS :=
 (sSeq (sAsg (zdL "blocks" [("Sums",zcJ 1 [] zaK)] (vVar 0) a0) (gN 3))
  (sSeq (sIf (vOrT (zeX (zaW (vCl gIs1 (zac (vVar 3) (zac (cT "list") a0))))) (zaW (vOp gNe (vCl gLen (zac (vVar 3) a0)) (vCl gLen (zac (vVar 2) a0)))))
   (sRet (cB false))
   sNx)
  (sSeq (sAsg (cI 0) (gN 4))
  (sSeq (sFor (vZip (vVar 3) (vVar 2)) (zhS 2 (zd6 (gN 5) (zd6 (gN 6) zjS))) zaN)
  (sSeq (sExp (vBM zcN (vVar 3) (zac (vTup (zac (cI 1) (zac (cI 1) (zac (cI 1) (zac (cI 1) a0))))) a0)))
  (sRet (vOp gEq (vVar 4) (vCl gLen (zac (vVar 1) a0)))))))))
noncomputable def zar:List A→Mo A:=fnF 8 za7
noncomputable def zcf:MS :=
 (sSeq (sExp (vBM zcN (vOp gIx (vVar 5) (vVar 10)) (zac (vVar 9) a0)))
     (sExp (zdL "put" [("Sums",zcJ 2 [] zbg)] (vOp gIx (vVar 4) (vVar 10)) (zac (vVar 9) a0))))
noncomputable def za2:MS :=
 (sSeq (sAsg (vCl (zaH 2 zah) (zac (vCl (zaH 2 zaL) (zac (vVar 7) (zac (vOp (gAdd false) (cI 1) (vVar 8)) a0))) (zac (vVar 1) a0))) (gN 9))
    (sFor (ze3 (zac (vOp (gAdd false) (cI 1) (vCl zkw (zac (vOp gEq (vOp (gMod) (vCl gLen (zac (vOp gIx (vVar 5) (cI 0)) a0)) (cI 3)) (cI 0)) a0))) a0)) (gN 10) zcf))
noncomputable def zbO:MS :=
 (sSeq (sAsg (vCl (zaH 3 zbk) (zac (vVar 0) (zac (cI 3) (zac (vVar 6) a0)))) (gN 7))
   (sSeq (sFor (ze3 (zac (vOp (gAdd false) (cI 1) (vOp (gMod) (vVar 7) (cI 4))) a0)) (gN 8) za2)
   (sIf (zlf (zaW (vOp gEq (vOp (gMod) (vVar 6) (cI 5)) (vOp (gMod) (vVar 2) (cI 5)))) (zeX (zaW (vCl (zaH 3 zar) (zac (vOp gIx (vVar 4) (cI 0)) (zac (vOp gIx (vVar 5) (cI 0)) (zac (vCl (zaH 2 zaR) (zac (vOp gIx (vVar 3) (cI 0)) (zac (vCl gLen (zac (vOp gIx (vVar 5) (cI 0)) a0)) a0))) a0)))))))
    (sRet (cB false))
    sNx)))
noncomputable def zcd:MS :=
 (sSeq (sAsg (vCl (zaH 2 zaR) (zac (vOp gIx (vVar 3) (vVar 10)) (zac (vCl gLen (zac (vOp gIx (vVar 5) (vVar 10)) a0)) a0))) (gN 11))
   (sIf (vOrT (zeX (zaW (vCl (zaH 3 zar) (zac (vOp gIx (vVar 4) (vVar 10)) (zac (vOp gIx (vVar 5) (vVar 10)) (zac (vVar 11) a0)))))) (zeX (zaW (vCl (zaH 3 zar) (zac (vOp gIx (vVar 4) (vVar 10)) (zac (vOp gIx (vVar 5) (vVar 10)) (zac (vVar 11) a0)))))))
    (sRet (cB false))
    sNx))
noncomputable def zcQ:MS :=
 (sSeq (sAsg (vOp (gMod) (vCl (zaH 2 zaA) (zac (vVar 0) (zac (cI 0) a0))) (cI 5)) (gN 1))
  (sSeq (sAsg (vCl (zaH 2 zaA) (zac (vVar 0) (zac (cI 1) a0))) (gN 2))
  (sSeq (sAsg (vLst true (zac (vOp (gAdd true) (cI 2) (vOp (gMod) (vVar 2) (cI 8))) (zac (vOp (gAdd true) (cI 2) (vOp (gMod) (vOp (gDiv) (vVar 2) (cI 64)) (cI 8))) a0))) (gN 3))
  (sSeq (sIf (zaW (vOp gEq (vOp (gMod) (vOp (gDiv) (vVar 2) (cI 8)) (cI 8)) (cI 0)))
   (sAsg (cI 1000) (zhq (vVar 3) (cI 0)))
   sNx)
  (sSeq (sAsg (vLst false (zac (vCl (zfq "Sums" 2 zay) (zac (vOp gIx (vVar 3) (cI 0)) a0)) (zac (vCl (zfq "Sums" 2 zay) (zac (vOp gIx (vVar 3) (cI 1)) a0)) a0))) (gN 4))
  (sSeq (sAsg (vLst false (zac (vLst true a0) (zac (vLst true a0) a0))) (gN 5))
  (sSeq (sFor (ze3 (zac (vCl (zaH 3 zbp) (zac (vVar 0) (zac (cI 3) (zac (cI 60) a0)))) a0)) (gN 6) zbO)
  (sSeq (sFor (ze3 (zac (cI 2) a0)) (gN 10) zcd)
  (sRet (cB true))))))))))
noncomputable def ze5:List A→Mo A:=fnF 12 zcQ
end M
namespace V2
open PySem L2
@[simp] theorem zfP (neg:Bool) (i j:Int) (Ω:Sto):gEqB neg (.int i) (.int j) Ω=some (.ok (.bl (if neg then !(i == j) else i == j)),Ω):=by
 simp [gEqB,res,pur,eqA]
@[simp] theorem zmm (i j:Int) (Ω:Sto):gEq (.int i) (.int j) Ω=some (.ok (.bl (i == j)),Ω):=zfP false i j Ω
@[simp] theorem zmq (i j:Int) (Ω:Sto):gNe (.int i) (.int j) Ω=some (.ok (.bl (!(i == j))),Ω):=zfP true i j Ω
theorem zdG {i j:Int} (h0 : -18446744073709551616 < i) (h1:i < 18446744073709551616):CMul i j := .inl ⟨h0,h1⟩
theorem zjf {i j:Int} (h0 : -18446744073709551616 < j) (h1:j < 18446744073709551616):CMul i j := .inr ⟨h0,h1⟩
@[simp] theorem zmW {α:Type} (x:α) (l:List α):atI (x :: l) 0=some x:=zh2 _
@[simp] theorem zm1 {α:Type} (x y:α) (l:List α):atI (x :: y :: l) 1=some y:=zjR _
@[simp] theorem zmX {α:Type} (x y z:α) (l:List α):atI (x :: y :: z :: l) 2=some z:=zeO _ 2
@[simp] theorem zm3 {α:Type} (x y z u:α) (l:List α):atI (x :: y :: z :: u :: l) 3=some u:=zeO _ 3
end V2
namespace M
open PySem L2 V2
def mixI (c k:Int):Int :=
 ((c + 1) * (48271 + 118 * k) % 2147483629 / 977 * 16807 + (c + 1) * (48271 + 118 * k) % 2147483629 * (k * k + 7) + k) % 2147483587
theorem mix0 (c k:Int):0 ≤ mixI c k:=Int.emod_nonneg _ (by decide)
theorem mix1 (c k:Int):mixI c k < 2147483587:=Int.emod_lt_of_pos _ (by decide)
theorem ziv (c k:Int) (Ω:Sto) (hc:0 ≤ c) (hc1:c < 8589934592) (hk:0 ≤ k) (hk1:k < 1048576):zaL [.int c, .int k] Ω=some (.ok (.int (mixI c k)),Ω):=by
 have f0:=Int.emod_nonneg ((c + 1) * (48271 + 118 * k)) (show (2147483629:Int) ≠ 0 by decide)
 have f1:=Int.emod_lt_of_pos ((c + 1) * (48271 + 118 * k)) (show (0:Int) < 2147483629 by decide)
 have h1:CMul (c + 1) (48271 + 118 * k):=zdG (by omega) (by omega)
 have h2:CMul k k:=zdG (by omega) (by omega)
 have h3:∀ j,CMul ((c + 1) * (48271 + 118 * k) % 2147483629) j:=fun j=>zdG (by omega) (by omega)
 have h4:∀ j,CMul j 16807:=fun j=>zjf (by decide) (by decide)
 have h5:∀ j,CMul 118 j:=fun j=>zdG (by decide) (by decide)
 have h6:∀ j,CDiv j 977:=fun j=>⟨by decide,by decide⟩
 simp [zaL,zdZ,h1,h2,h3,h4,h5,h6,mixI]
def zew (ns:List Int) (k:Int):Int:=mixI (if k < ns.length then ns[k.toNat]?.getD 0 % 2147483647 else 0) (k + 101)
theorem zjB (ns:List Int) (k:Int):0 ≤ zew ns k:=mix0 _ _
theorem zmN (ns:List Int) (k:Int):zew ns k < 2147483587:=mix1 _ _
theorem zf2 (ns:List Int) (k:Int) (Ω:Sto) (hk:0 ≤ k) (hk1:k < 1000000):zaA [.scr ns, .int k] Ω=some (.ok (.int (zew ns k)),Ω):=by
 by_cases h:k < (ns.length:Int)
 ·obtain ⟨n,rfl⟩:=Int.eq_ofNat_of_zero_le hk
  have hn:n < ns.length:=by omega
  have e:atI (ns.map A.int) (n:Int)=some (.int ns[n]):=by rw [zdz];simp [hn]
  have f0:=Int.emod_nonneg ns[n] (show (2147483647:Int) ≠ 0 by decide)
  have f1:=Int.emod_lt_of_pos ns[n] (show (0:Int) < 2147483647 by decide)
  have m:=fun Ω=>ziv (ns[n] % 2147483647) (n + 101) Ω f0 (by omega) (by omega) (by omega)
  simp [zaA,zcK,h,e,m,zew,hn]
 ·have m:=fun Ω=>ziv 0 (k + 101) Ω (by decide) (by decide) (by omega) (by omega)
  simp [zaA,zcK,h,m,zew]
end M
namespace V2
open PySem L2
theorem zcZ {f:A→A→Bool}:∀ (xs:List A),(∀ x ∈ xs,f x x=true)→ze6 f xs xs=true
 | [],_=>rfl
 | x :: xs,h=>by simp only [ze6,h x (List.mem_cons_self ..),Bool.true_and];exact zcZ xs fun y hy=>h y (List.mem_cons_of_mem _ hy)
theorem zir:∀ (n:Nat) (a:A),pur n a=true→eqA n a a=true:=by
 intro n
 induction n with
 | zero=>intro a h;cases a <;> first | (simp [eqA];done) | (simp [pur] at h)
 | succ n ih =>
  intro a h
  cases a with
  | tup ds=>simp only [pur,List.all_eq_true] at h;simp only [eqA];exact zcZ ds fun x hx=>ih x (h x hx)
  | lst ds=>simp only [pur,List.all_eq_true] at h;simp only [eqA];exact zcZ ds fun x hx=>ih x (h x hx)
  | int i=>simp [eqA]
  | bl i=>simp [eqA]
  | str i=>simp [eqA]
  | non=>simp [eqA]
  | _=>simp [pur] at h
theorem zgW {Ω:Sto} {n:Nat} {a:A} (h:pur 8 a=true):res Ω n a=some a:=by
 cases n <;> simp [res,h]
abbrev E:=Int × Int × Int
end V2
namespace M
open PySem L2 V2
end M
namespace M
open PySem L2 V2
end M
namespace M
open PySem L2 V2
end M
namespace V2
open PySem L2
end V2
namespace M
open PySem L2 V2
end M
namespace V2
open PySem L2
theorem zen {ok:Sto→Prop} {g:A→MS} {c:Ev→Mo Bool} {e:Ev→Mo A} (F:A→Option A) (P:Ev→Prop) (Ω0:Sto) (hok:∀ ys,ok (Ω0 ++ [.lst ys])):∀ (xs:List A) (ρ:Ev) (acc:List A),P ρ→acc.length + xs.length ≤ 1000000 →
  (∀ x ∈ xs,∀ ρ,P ρ→∀ ys,∃ ρ1,P ρ1∧g x ρ (Ω0 ++ [.lst ys])=some (.nx,ρ1,Ω0 ++ [.lst ys])∧((∃ y,F x=some y∧c ρ1 (Ω0 ++ [.lst ys])=some (.ok true,Ω0 ++ [.lst ys])∧e ρ1 (Ω0 ++ [.lst ys])=some (.ok y,Ω0 ++ [.lst ys]))∨(F x=none∧c ρ1 (Ω0 ++ [.lst ys])=some (.ok false,Ω0 ++ [.lst ys])))) →
  ∃ ρ',fLC ok g c e Ω0.length xs ρ (Ω0 ++ [.lst acc])=some (ρ',Ω0 ++ [.lst (acc ++ xs.filterMap F)])
 | [],ρ,acc,_,_,_=>⟨ρ,by simp [fLC,hok]⟩
 | x :: xs,ρ,acc,hP,hl,turn=>by
  simp only [List.length_cons] at hl
  obtain ⟨ρ1,hP1,e1,q⟩:=turn x (List.mem_cons_self ..) ρ hP acc
  have hz:acc.length < sizeLine:=by rw [sizeLine_eq];omega
  rcases q with ⟨y,f1,e2,e3⟩ | ⟨f1,e2⟩
  ·obtain ⟨ρ',ih⟩:=zen F P Ω0 hok xs ρ1 (acc ++ [y]) hP1 (by simp;omega) fun x hx=>turn x (List.mem_cons_of_mem _ hx)
   exact ⟨ρ',by simp [fLC,hok,e1,e2,e3,hz,ih,f1]⟩
  ·obtain ⟨ρ',ih⟩:=zen F P Ω0 hok xs ρ1 acc hP1 (by omega) fun x hx=>turn x (List.mem_cons_of_mem _ hx)
   exact ⟨ρ',by simp [fLC,hok,e1,e2,ih,f1]⟩
theorem zhX {n:Nat} {js:List Nat} {fi:Ev→Mo Src} {g:A→MS} {c:Ev→Mo Bool} {e:Ev→Mo A} {ρ:Ev} {Ω Ω0:Sto} {S:Src} (F:A→Option A) (P:Ev→Prop) (hfi:fi ρ Ω=some (.ok S,Ω0)) (hok:∀ ys,S.ok (Ω0 ++ [.lst ys])) (hP:P (lcEv n js ρ)) (hl:S.ds.length ≤ 1000000)
  (turn:∀ x ∈ S.ds,∀ ρ,P ρ→∀ ys,∃ ρ1,P ρ1∧g x ρ (Ω0 ++ [.lst ys])=some (.nx,ρ1,Ω0 ++ [.lst ys])∧((∃ y,F x=some y∧c ρ1 (Ω0 ++ [.lst ys])=some (.ok true,Ω0 ++ [.lst ys])∧e ρ1 (Ω0 ++ [.lst ys])=some (.ok y,Ω0 ++ [.lst ys]))∨(F x=none∧c ρ1 (Ω0 ++ [.lst ys])=some (.ok false,Ω0 ++ [.lst ys]))))
  (hc:ClL Ω0.length (S.ds.filterMap F)):vLC false n js fi g c e ρ Ω=some (.ok (.lst (S.ds.filterMap F)),Ω0):=by
 obtain ⟨ρ',q⟩:=zen F P Ω0 hok S.ds (lcEv n js ρ) [] hP (by simpa using hl) turn
 simp [vLC,mb,hfi,q,zjX,hc]
theorem zin {a b c:A} {Ω:Sto} (ha:res Ω 6 a=some c) (hb:res Ω 6 b=some c) (hc:pur 8 c=true):gNe a b Ω=some (.ok (.bl false),Ω):=by
 simp [gNe,gEqB,ha,hb,hc,zir 8 c hc]
theorem zfU {a:A} {Ω:Sto} (h:pur 8 a=true):gNe a a Ω=some (.ok (.bl false),Ω):=zin (zgW h) (zgW h) h
end V2
namespace V2
open PySem L2
theorem rngO {f:Ev→Mo (List A)} {ρ:Ev} {Ω Ω':Sto} {j:Int} (h:f ρ Ω=some (.ok [.int j],Ω')) (hs:zbH j):ze3 f ρ Ω=some (.ok (zb9 0 j.toNat),Ω'):=by
 unfold ze3
 rw [zcP h]
 show mb (chk (zbH j)) _ Ω'=_
 rw [zlu _ hs]
 rfl
theorem forO {fi:Ev→Mo Src} {g:A→MS} {b:MS} {ρ:Ev} {Ω Ω':Sto} {S:Src} (h:fi ρ Ω=some (.ok S,Ω')):sFor fi g b ρ Ω=fFor S.ok g b S.ds ρ Ω':=by
 unfold sFor
 rw [zdt h]
theorem zgE {n:Nat}:∀ {as:List A},(∀ a ∈ as,Cl n a)→ClL n as
 | [],_=>by simp only [ClL]
 | a :: as,h=>by simp only [ClL];exact ⟨h a (List.mem_cons_self ..),zgE fun b hb=>h b (List.mem_cons_of_mem _ hb)⟩
end V2
namespace M
open PySem L2 V2
abbrev Rn:=Int × Int
def und (rs:List Rn) (n:Int):Int:=(rs.map fun r=>if r.1 < n then r.2 else 0).sum
def upt (rs:List Rn) (n:Int):Int:=(rs.map fun r=>if r.1 ≤ n then r.2 else 0).sum
def whole (rs:List Rn):Int:=(rs.map (·.2)).sum
end M
namespace M
open PySem PyProof L2 V2
theorem zhD (c k:Int) (hc:0 ≤ c) (hc1:c < 8589934592):∃ n,∀ Ω,zah [.int c, .int k] Ω=some (.ok (.int n),Ω):=by
 have h1:∀ j,CMul c j:=fun j=>zdG (by omega) (by omega)
 have h2:∀ j,CMul 2 j:=fun j=>zdG (by decide) (by decide)
 have h2':∀ j,CMul j 48271:=fun j=>zjf (by decide) (by decide)
 have h3:CPow 10 18:=⟨by decide,by decide,by decide⟩
 have h4:CPow 10 59:=⟨by decide,by decide,by decide⟩
 have h5:CPow 10 60:=⟨by decide,by decide,by decide⟩
 have hd:∀ j,CDiv j 14:=fun j=>⟨by decide,by decide⟩
 have hs:(4:Nat) ≤ sizeLine:=by decide
 have hs3:(3:Nat) ≤ sizeLine:=by decide
 by_cases k0:k=0
 ·exact ⟨c % 7,fun Ω=>by simp [zah,zam,k0]⟩
 by_cases k1:k=1
 ·exact ⟨c % 100 - 50,fun Ω=>by simp [zah,zam,k1]⟩
 by_cases k2:k=2
 ·exact ⟨c * c * 48271 % (2 * 10 ^ 18 + 1) - 10 ^ 18,fun Ω=>by simp [zah,zam,k2,h1,h2,h2',h3]⟩
 by_cases k3:k=3
 ·have hm:c % 4=0∨c % 4=1∨c % 4=2∨c % 4=3:=by omega
  rcases hm with e | e | e | e
  ·exact ⟨10 ^ 59 + c,fun Ω=>by simp [zah,zam,k3,e,h4,h5,hs]⟩
  ·exact ⟨0 - 10 ^ 59 - c,fun Ω=>by simp [zah,zam,k3,e,h4,h5,hs]⟩
  ·exact ⟨10 ^ 60 - 1,fun Ω=>by simp [zah,zam,k3,e,h4,h5,hs]⟩
  ·exact ⟨1 - 10 ^ 60,fun Ω=>by simp [zah,zam,k3,e,h4,h5,hs]⟩
 ·have hm:c % 30 / 14=0∨c % 30 / 14=1∨c % 30 / 14=2:=by omega
  rcases hm with e | e | e
  ·exact ⟨5,fun Ω=>by simp [zah,zam,k0,k1,k2,k3,e,hd,hs3]⟩
  ·exact ⟨0 - 5,fun Ω=>by simp [zah,zam,k0,k1,k2,k3,e,hd,hs3]⟩
  ·exact ⟨0,fun Ω=>by simp [zah,zam,k0,k1,k2,k3,e,hd,hs3]⟩
end M
namespace M
open PySem L2 V2
abbrev Sg:=List Int
def mnL:Sg→Int
 | []=>0
 | x :: r=>if r=[] then x else min x (mnL r)
def mxL:Sg→Int
 | []=>0
 | x :: r=>if r=[] then x else max x (mxL r)
theorem zjd:∀ {a b:Sg},a ≠ []→b ≠ []→mnL (a ++ b)=min (mnL a) (mnL b)
 | [],_,h,_=>absurd rfl h
 | x :: r,b,_,hb=>by
  by_cases e:r=[]
  ·subst e
   simp [mnL,hb]
  ·have h1:r ++ b ≠ []:=by simp [e]
   simp only [List.cons_append,mnL,if_neg h1,if_neg e,zjd e hb]
   omega
theorem zja:∀ {a b:Sg},a ≠ []→b ≠ []→mxL (a ++ b)=max (mxL a) (mxL b)
 | [],_,h,_=>absurd rfl h
 | x :: r,b,_,hb=>by
  by_cases e:r=[]
  ·subst e
   simp [mxL,hb]
  ·have h1:r ++ b ≠ []:=by simp [e]
   simp only [List.cons_append,mxL,if_neg h1,if_neg e,zja e hb]
   omega
theorem zkx:∀ {g:Sg} {x:Int},x ∈ g→mnL g ≤ x∧x ≤ mxL g
 | [],_,h=>by simp at h
 | y :: r,x,h=>by
  by_cases e:r=[]
  ·subst e
   simp at h;subst h;simp [mnL,mxL]
  ·simp only [mnL,mxL,if_neg e]
   rcases List.mem_cons.mp h with z | z
   ·subst z;omega
   ·have:=zkx z;omega
def sgE (g:Sg):A := .tup [.int g.length, .int g.sum, .int (mnL g), .int (mxL g)]
def layS (k:Nat):Sg→List (List Sg)→List (List Sg)
 | g,[]=>[[g]]
 | g,S :: r=>if k ≤ S.length then (match S with
  | a :: b :: t=>(t ++ [g]) :: layS k (a ++ b) r
  | _=>(S ++ [g]) :: r) else (S ++ [g]) :: r
def zae:List (List Sg)→List Sg
 | []=>[]
 | S :: r=>zae r ++ S
def zcy (L:List (List Sg)):List Int:=(zae L).flatten
def Lv (k:Nat):Nat→List (List Sg)→Prop
 | _,[]=>True
 | j,S :: r=>(∀ g ∈ S,g.length=2 ^ j)∧S ≠ []∧S.length ≤ k∧(r ≠ []→k ≤ S.length + 1)∧Lv k (j + 1) r
theorem zgB {k:Nat} (hk:2 ≤ k):∀ {L:List (List Sg)} {g:Sg} {j:Nat},Lv k j L→g.length=2 ^ j→Lv k j (layS k g L)
 | [],g,j,_,hg=>⟨by simpa using hg,by simp,by simp;omega,fun h=>absurd rfl h,trivial⟩
 | S :: r,g,j,h,hg=>by
  obtain ⟨h1,h2,h3,h4,h5⟩:=h
  simp only [layS]
  by_cases c:k ≤ S.length
  ·rw [if_pos c]
   match S,h1,h2,h3,h4,c with
   | a :: b :: t,h1,h2,h3,h4,c =>
    simp only
    have ha:=h1 a (by simp)
    have hb:=h1 b (by simp)
    refine ⟨fun q hq=>?_,by simp,by simp at h3 ⊢;omega,fun _=>by simp at c ⊢;omega,zgB hk h5 (by rw [List.length_append,ha,hb,Nat.pow_succ];omega)⟩
    rcases List.mem_append.mp hq with z | z
    ·exact h1 q (by simp [z])
    ·simp at z;subst z;exact hg
   | [],_,h2,_,_,_=>exact absurd rfl h2
   | [a],_,_,_,_,c=>simp at c;omega
  ·rw [if_neg c]
   refine ⟨fun q hq=>?_,by simp,by simp;omega,fun h=>by have:=h4 h;simp;omega,h5⟩
   rcases List.mem_append.mp hq with z | z
   ·exact h1 q z
   ·simp at z;subst z;exact hg
theorem zeo {k:Nat} (hk:2 ≤ k):∀ {L:List (List Sg)} {g:Sg},zcy (layS k g L)=zcy L ++ g
 | [],g=>by simp [layS,zcy,zae]
 | S :: r,g=>by
  simp only [layS]
  by_cases c:k ≤ S.length
  ·rw [if_pos c]
   match S,c with
   | a :: b :: t,c =>
    simp only
    have:=zeo hk (L:=r) (g:=a ++ b)
    simp only [zcy,zae,List.flatten_append,List.flatten_cons,List.flatten_nil] at this ⊢
    rw [this];simp [List.append_assoc]
   | [],c=>simp at c;omega
   | [a],c=>simp at c;omega
  ·rw [if_neg c]
   simp [zcy,zae]
theorem zi5 {k:Nat}:∀ {L:List (List Sg)} {j:Nat},Lv k j L→L ≠ []→2 ^ (j + L.length - 1) ≤ (zcy L).length
 | [],_,_,h=>absurd rfl h
 | [S],j,h,_=>by
  obtain ⟨h1,h2,_⟩:=h
  cases S with
  | nil=>exact absurd rfl h2
  | cons g t =>
   have:=h1 g (by simp)
   simp [zcy,zae];omega
 | S :: S2 :: r,j,h,_=>by
  obtain ⟨_,_,_,_,h5⟩:=h
  have:=zi5 h5 (by simp)
  have e:(zcy (S :: S2 :: r)).length=(zcy (S2 :: r)).length + S.flatten.length:=by
   simp only [zcy,zae,List.flatten_append,List.length_append]
  rw [e]
  have e2:j + (S :: S2 :: r).length - 1=j + 1 + (S2 :: r).length - 1:=by simp;omega
  rw [e2];omega
theorem zfW {k:Nat} {L:List (List Sg)} (h:Lv k 0 L) (hn:(zcy L).length ≤ 500):L.length ≤ 9:=by
 by_cases e:L=[]
 ·subst e;simp
 ·have:=zi5 h e
  by_cases c:L.length ≤ 9
  ·exact c
  ·have h2:2 ^ 9 ≤ 2 ^ (0 + L.length - 1):=Nat.pow_le_pow_right (by omega) (by omega)
   omega
def fsS (k m:Nat) (cs:List Nat):List (Str × Fd):=[("keep", .val (.int k)),("many", .val (.int m)),("levels", .lst (cs.map A.cel))]
structure zaz (Ω:Sto) (s k m:Nat) (L:List (List Sg)) (cs:List Nat):Prop where
 obj:Ω[s]? = some (.ins "Sums" (fsS k m cs))
 len:cs.length=L.length
 cel:∀ (j c:Nat) (S:List Sg),cs[j]? = some c→L[j]? = some S→Ω[c]? = some (.lst (S.map sgE))
 nd:cs.Nodup
 ns:s ∉ cs
structure FrS (Ω Ω':Sto) (s:Nat) (cs cs':List Nat):Prop where
 le:Ω.length ≤ Ω'.length
 eq:∀ i,i < Ω.length→i ≠ s→i ∉ cs→Ω'[i]? = Ω[i]?
 new:∀ c ∈ cs',c ∈ cs∨Ω.length ≤ c
theorem FrS.refl (Ω:Sto) (s:Nat) (cs:List Nat):FrS Ω Ω s cs cs:=⟨Nat.le_refl _,fun _ _ _ _=>rfl,fun _ h => .inl h⟩
theorem FrS.trans {Ω Ω1 Ω2:Sto} {s:Nat} {cs cs1 cs2:List Nat} (a:FrS Ω Ω1 s cs cs1) (b:FrS Ω1 Ω2 s cs1 cs2):FrS Ω Ω2 s cs cs2 where
 le:=Nat.le_trans a.le b.le
 eq:=fun i hi hs hc=>by
  rw [b.eq i (Nat.lt_of_lt_of_le hi a.le) hs (fun z=>by
   rcases a.new i z with q | q
   ·exact hc q
   ·omega),a.eq i hi hs hc]
 new:=fun c hc=>by
  rcases b.new c hc with z | z
  ·exact a.new c z
  ·exact .inr (Nat.le_trans a.le z)
section
variable {Ω:Sto} {s k m:Nat} {L:List (List Sg)} {cs:List Nat}
theorem zaz.lt (h:zaz Ω s k m L cs):s < Ω.length:=(List.getElem?_eq_some_iff.mp h.obj).1
theorem zaz.clt (h:zaz Ω s k m L cs) {j c:Nat} (hj:cs[j]? = some c):c < Ω.length∧c ≠ s:=by
 have hl:=(List.getElem?_eq_some_iff.mp hj).1
 have:=h.cel j c (L[j]'(by rw [← h.len];exact hl)) hj (List.getElem?_eq_getElem _)
 exact ⟨(List.getElem?_eq_some_iff.mp this).1,fun e=>h.ns (e ▸ List.mem_of_getElem? hj)⟩
theorem zjD {cs:List Nat} (h:cs.Nodup) {i j c:Nat} (hi:cs[i]? = some c) (hj:cs[j]? = some c):i=j:=zbB h hi hj
theorem zaz.upd (h:zaz Ω s k m L cs) {j c:Nat} {S':List Sg} (hj:cs[j]? = some c):zaz (Ω.set c (.lst (S'.map sgE))) s k m (L.set j S') cs∧FrS Ω (Ω.set c (.lst (S'.map sgE))) s cs cs:=by
 obtain ⟨c1,c2⟩:=h.clt hj
 have hjl:j < L.length:=by rw [← h.len];exact (List.getElem?_eq_some_iff.mp hj).1
 refine ⟨⟨by rw [List.getElem?_set_ne c2];exact h.obj,by simp [h.len],fun i d S hi hS=>?_,h.nd,h.ns⟩,⟨by simp,fun i hi hs hc=>?_,fun _ z => .inl z⟩⟩
 ·by_cases e:i=j
  ·subst e
   rw [hj] at hi;cases hi
   rw [List.getElem?_set_self hjl] at hS;cases hS
   exact List.getElem?_set_self c1
  ·rw [List.getElem?_set_ne (Ne.symm e)] at hS
   have:c ≠ d:=fun z=>e (zjD h.nd (z ▸ hi) hj)
   rw [List.getElem?_set_ne this]
   exact h.cel i d S hi hS
 ·have:c ≠ i:=fun z=>hc (z ▸ List.mem_of_getElem? hj)
  rw [List.getElem?_set_ne this]
theorem zaz.new (h:zaz Ω s k m L cs):zaz (Ω.set s (.ins "Sums" (fsS k m (cs ++ [Ω.length]))) ++ [.lst []]) s k m (L ++ [[]]) (cs ++ [Ω.length])∧FrS Ω (Ω.set s (.ins "Sums" (fsS k m (cs ++ [Ω.length]))) ++ [.lst []]) s cs (cs ++ [Ω.length]):=by
 have hs:=h.lt
 have hcs:∀ c ∈ cs,c < Ω.length:=fun c hc=>by
  obtain ⟨j,hj,e⟩:=List.getElem_of_mem hc
  exact (h.clt (j:=j) (by rw [← e];exact List.getElem?_eq_getElem hj)).1
 refine ⟨⟨?_,by simp [h.len],fun i d S hi hS=>?_,?_,?_⟩,⟨by simp,fun i hi hs' hc=>?_,fun c hc=>?_⟩⟩
 ·rw [List.getElem?_append_left (by simpa using hs),List.getElem?_set_self hs]
 ·by_cases e:i < cs.length
  ·rw [List.getElem?_append_left e] at hi
   rw [List.getElem?_append_left (by rw [← h.len];exact e)] at hS
   have:=h.clt hi
   rw [List.getElem?_append_left (by simpa using this.1),List.getElem?_set_ne (Ne.symm this.2)]
   exact h.cel i d S hi hS
  ·have e2:i=cs.length:=by
    have:=(List.getElem?_eq_some_iff.mp hi).1
    simp at this;omega
   subst e2
   rw [List.getElem?_append_right (Nat.le_refl _)] at hi
   simp at hi;subst hi
   rw [List.getElem?_append_right (by rw [h.len];exact Nat.le_refl _),h.len] at hS
   simp at hS;subst hS
   rw [List.getElem?_append_right (by simp)];simp
 ·rw [List.nodup_append]
  exact ⟨h.nd,by simp,fun a ha b hb=>by simp at hb;have:=hcs a ha;omega⟩
 ·simp;exact ⟨h.ns,by omega⟩
 ·rw [List.getElem?_append_left (by simpa using hi),List.getElem?_set_ne (Ne.symm hs')]
 ·rcases List.mem_append.mp hc with z | z
  ·exact .inl z
  ·simp at z;right;omega
theorem zaz.rep (h:zaz Ω s k m L cs) {j:Nat} {S':List Sg} (hj:j < cs.length):zaz ((Ω ++ [Cell.lst (S'.map sgE)]).set s (.ins "Sums" (fsS k m (cs.set j Ω.length)))) s k m (L.set j S') (cs.set j Ω.length)∧FrS Ω ((Ω ++ [Cell.lst (S'.map sgE)]).set s (.ins "Sums" (fsS k m (cs.set j Ω.length)))) s cs (cs.set j Ω.length):=by
 have hs:=h.lt
 have hcs:∀ c ∈ cs,c < Ω.length:=fun c hc=>by
  obtain ⟨j,hj,e⟩:=List.getElem_of_mem hc
  exact (h.clt (j:=j) (by rw [← e];exact List.getElem?_eq_getElem hj)).1
 have e0:(Ω ++ [Cell.lst (S'.map sgE)]).set s (.ins "Sums" (fsS k m (cs.set j Ω.length)))=Ω.set s (.ins "Sums" (fsS k m (cs.set j Ω.length))) ++ [.lst (S'.map sgE)]:=List.set_append_left _ _ hs
 rw [e0]
 refine ⟨⟨?_,by simp [h.len],fun i d S hi hS=>?_,?_,?_⟩,⟨by simp,fun i hi hs' hc=>?_,fun c hc=>?_⟩⟩
 ·rw [List.getElem?_append_left (by simpa using hs),List.getElem?_set_self hs]
 ·by_cases e:i=j
  ·subst e
   rw [List.getElem?_set_self hj] at hi;cases hi
   rw [List.getElem?_set_self (by rw [← h.len];exact hj)] at hS;cases hS
   rw [List.getElem?_append_right (by simp)];simp
  ·rw [List.getElem?_set_ne (Ne.symm e)] at hi hS
   have:=h.clt hi
   rw [List.getElem?_append_left (by simpa using this.1),List.getElem?_set_ne (Ne.symm this.2)]
   exact h.cel i d S hi hS
 ·rw [List.Nodup,List.pairwise_iff_getElem]
  intro i i2 h1 h2 h12 z
  simp only [List.length_set] at h1 h2
  rw [List.getElem_set,List.getElem_set] at z
  have g1:∀ x (hx:x < cs.length),cs[x]=Ω.length→False:=fun x hx e=>by have:=hcs _ (List.getElem_mem hx);omega
  split at z
  ·rw [if_neg (by omega)] at z;exact g1 i2 h2 z.symm
  ·split at z
   ·exact g1 i h1 z
   ·have:=zjD h.nd (i:=i) (j:=i2) (c:=cs[i]) (List.getElem?_eq_getElem h1) (by rw [z];exact List.getElem?_eq_getElem h2)
    omega
 ·intro z
  rcases List.mem_or_eq_of_mem_set z with q | q
  ·exact h.ns q
  ·omega
 ·rw [List.getElem?_append_left (by simpa using hi),List.getElem?_set_ne (Ne.symm hs')]
 ·rcases List.mem_or_eq_of_mem_set hc with q | q
  ·exact .inl q
  ·right;omega
end
end M
namespace M
open PySem L2 V2
theorem zmr {c:Ev→Mo Bool} {f g:MS} {ρ:Ev} {Ω Ω':Sto} (h:c ρ Ω=some (.ok true,Ω')):sIf c f g ρ Ω=f ρ Ω':=by
 unfold sIf
 rw [zdt h]
 simp
theorem st_a (Ω:Sto) (a b:Cell):(Ω ++ [a,b])[Ω.length]? = some a:=by simp
theorem st_b (Ω:Sto) (a b:Cell):(Ω ++ [a,b])[Ω.length + 1]? = some b:=by
 rw [List.getElem?_append_right (by omega)];simp
theorem zmv (Ω:Sto) (a b c:Cell):(Ω ++ [a,b]).set Ω.length c=Ω ++ [c,b]:=by simp
theorem zm2 (Ω:Sto) (a b c:Cell):(Ω ++ [a,b]).set (Ω.length + 1) c=Ω ++ [a,c]:=by
 rw [List.set_append_right _ _ (by omega)];simp
end M
namespace M
open PySem L2 V2
end M
namespace M
open PySem L2 V2
end M
namespace M
open PySem L2 V2
theorem zdB {Ω Ω':Sto} {a:A} {i:Nat} (hi:i < Ω.length) (h:Ω'[i]? ≠ Ω[i]?):trim Ω (some (.ok a,Ω'))=some (.ok a,Ω'):=by
 simp only [trim]
 rw [if_neg]
 rintro ⟨e,_⟩
 apply h
 have:Ω'[i]? = (Ω'.take Ω.length)[i]?:=by rw [List.getElem?_take,if_pos hi]
 rw [this,e]
theorem zgk {a b:Sg} (ha:a ≠ []) (hb:b ≠ []) (Ω:Sto):zbw [sgE a,sgE b] Ω=some (.ok (sgE (a ++ b)),Ω):=by
 have s4:(4:Nat) ≤ sizeLine:=by decide
 have e:sgE (a ++ b) = .tup [.int ((a.length:Int) + b.length), .int (a.sum + b.sum), .int (min (mnL a) (mnL b)), .int (max (mxL a) (mxL b))]:=by
  simp only [sgE,zjd ha hb,zja ha hb,List.length_append,List.sum_append]
  simp
 rw [e]
 simp [zbw,zdY,sgE,s4]
section
variable {Ω:Sto} {s k m:Nat} {L:List (List Sg)} {cs:List Nat}
theorem zhg (h:zaz Ω s k m L cs) {ρ:Ev} (hρ:ρ[0]? = some (some (.cel s))):ownF ["Sums"] 0 "levels" ρ Ω=some (s,("Sums" : Str),fsS k m cs,Fd.lst (cs.map A.cel)):=zj8 hρ h.obj (by simp) rfl
theorem ziK (h:zaz Ω s k m L cs):gFld ["Sums"] "keep" (.cel s) Ω=some (.ok (.int k),Ω):=by
 simp only [gFld,h.obj]
 rfl
theorem zh1 (h:zaz Ω s k m L cs):gFld ["Sums"] "many" (.cel s) Ω=some (.ok (.int m),Ω):=by
 simp only [gFld,h.obj]
 rfl
theorem ziT (cs':List Nat):putD "levels" (.lst (cs'.map A.cel)) (fsS k m cs)=fsS k m cs':=rfl
theorem zie (m':Nat):putD "many" (.val (.int (m':Int))) (fsS k m cs)=fsS k m' cs:=rfl
theorem zaz.many (h:zaz Ω s k m L cs) (m':Nat):zaz (Ω.set s (.ins "Sums" (fsS k m' cs))) s k m' L cs∧FrS Ω (Ω.set s (.ins "Sums" (fsS k m' cs))) s cs cs:=by
 refine ⟨⟨List.getElem?_set_self h.lt,h.len,fun j c S hj hS=>?_,h.nd,h.ns⟩,⟨by simp,fun i hi hs hc=>by rw [List.getElem?_set_ne (Ne.symm hs)],fun _ z => .inl z⟩⟩
 rw [List.getElem?_set_ne (Ne.symm (h.clt hj).2)]
 exact h.cel j c S hj hS
end
theorem zeY (ds:List A) (n:Nat) (h:n ≤ ds.length):cutA ds (some (n:Int)) none=ds.drop n:=by
 unfold cutA
 rw [HT.zet,HT.zfK,Nat.min_eq_left h,List.take_of_length_le (by simp)]
theorem zfY {k:Nat} {g:Sg} {L:List (List Sg)} {j:Nat} {S:List Sg} (h:L[j]? = some S):L.drop j=S :: L.drop (j + 1):=by
 obtain ⟨h1,h2⟩:=List.getElem?_eq_some_iff.mp h
 rw [← h2]
 exact List.drop_eq_getElem_cons h1
theorem zmx (k m:Nat) (hk:2 ≤ k) (hk2:k ≤ 1000):∀ (fuel:Nat) (L:List (List Sg)) (cs:List Nat) (j:Nat) (g:Sg) (Ω:Sto) (s:Nat),zaz Ω s k m L cs→j ≤ L.length→L.length < fuel + j→g ≠ []→(∀ S ∈ L,S.length ≤ k∧∀ q ∈ S,q ≠ [])→L.length ≤ 1000 →
  ∃ Ω' cs',zaB fuel [.cel s,sgE g, .int j] Ω=some (.ok .non,Ω')∧zaz Ω' s k m (L.take j ++ layS k g (L.drop j)) cs'∧FrS Ω Ω' s cs cs':=by
 intro fuel
 induction fuel with
 | zero=>intro L cs j g Ω s h hj hf;omega
 | succ fuel ih =>
  intro L cs j g Ω s h hj hf hg hL hz
  have st1:∃ Ω1 L1 cs1 S,zaz Ω1 s k m L1 cs1∧FrS Ω Ω1 s cs cs1∧L1[j]? = some S∧L1.take j=L.take j∧layS k g (L.drop j)=layS k g (L1.drop j)∧S.length ≤ k∧(∀ q ∈ S,q ≠ [])∧(∀ S ∈ L1,S.length ≤ k∧∀ q ∈ S,q ≠ [])∧L1.length ≤ max L.length (j + 1) ∧
    (sIf (zaW (vOp gEq (vVar 2) (zfs ["Sums"] 0 "levels"))) (sExp (zeS ["Sums"] 0 "levels")) sNx) [some (.cel s),some (sgE g),some (.int j),none] Ω=some (.nx,[some (.cel s),some (sgE g),some (.int j),none],Ω1)∧((L1=L∧cs1=cs∧Ω1=Ω)∨(S=[]∧Ω1[s]? ≠ Ω[s]?)):=by
   have ow:=zhg h (ρ:=[some (.cel s),some (sgE g),some (.int j),none]) rfl
   have hzl:cs.length < sizeLine:=by rw [sizeLine_eq,h.len];omega
   by_cases e:j=L.length
   ·obtain ⟨h1,f1⟩:=h.new
    refine ⟨_,L ++ [[]],cs ++ [Ω.length],[],h1,f1,by rw [e];simp,by rw [e];simp,by rw [e];simp [layS],by simp,by simp,fun S hS=>?_,by simp;omega,?_, .inr ⟨rfl,?_⟩⟩
    ·rcases List.mem_append.mp hS with z | z
     ·exact hL S z
     ·simp at z;subst z;simp
    ·have ej:(cs.length:Int)=(j:Int):=by rw [h.len,e]
     have ep:=ziT (k:=k) (m:=m) (cs:=cs) (cs ++ [Ω.length])
     simp only [List.map_append,List.map_cons,List.map_nil] at ep
     simp [zfs,ow,ej,hzl,ep]
    ·rw [h.obj,h1.obj]
     intro z
     have:(cs ++ [Ω.length]).map A.cel=cs.map A.cel:=by
      simp only [fsS,Option.some.injEq,Cell.ins.injEq,true_and,List.cons.injEq,Prod.mk.injEq,Fd.lst.injEq,and_true] at z
      exact z
     have:=congrArg List.length this
     simp at this
   ·have hjl:j < L.length:=by omega
    refine ⟨Ω,L,cs,L[j],h,FrS.refl ..,List.getElem?_eq_getElem hjl,rfl,rfl,(hL _ (List.getElem_mem hjl)).1,(hL _ (List.getElem_mem hjl)).2,hL,by omega,?_, .inl ⟨rfl,rfl,rfl⟩⟩
    have ej:¬ (j:Int)=(cs.length:Int):=by rw [h.len];omega
    simp [zfs,ow,ej]
  obtain ⟨Ω1,L1,cs1,S,h1,f1,hS,ht,hly,hSk,hSn,hL1,hl1,r1,d1⟩:=st1
  have hjc:j < cs1.length:=by rw [h1.len];exact (List.getElem?_eq_some_iff.mp hS).1
  obtain ⟨c,hc⟩ : ∃ c,cs1[j]? = some c:=⟨cs1[j],List.getElem?_eq_getElem hjc⟩
  obtain ⟨hcl,hcs⟩:=h1.clt hc
  have hce:=h1.cel j c S hc hS
  obtain ⟨h2,f2⟩:=h1.upd (S':=S ++ [g]) hc
  have eS:(S ++ [g]).map sgE=S.map sgE ++ [sgE g]:=by simp
  have hat:atI (cs1.map A.cel) (j:Int)=some (.cel c):=by rw [zdz,List.getElem?_map,hc];rfl
  have ow1:=zhg h1 (ρ:=[some (.cel s),some (sgE g),some (.int j),none]) rfl
  have hz1:(S.map sgE).length < sizeLine:=by rw [sizeLine_eq];simp;omega
  have il:isL Ω1 (.cel c):=zdC (zan hce)
  have cl1:zcW Ω1 (.cel c)=some (c,S.map sgE):=zbU hce
  have e2:(Ω1.set c (.lst ((S ++ [g]).map sgE)))[c]? = some (.lst ((S ++ [g]).map sgE)):=List.getElem?_set_self hcl
  generalize hΩ2:Ω1.set c (.lst ((S ++ [g]).map sgE))=Ω2 at h2 f2 e2
  have li2:zaj Ω2 (.cel c)=some ((S ++ [g]).map sgE):=zan e2
  have kp:=ziK h2
  have start:∀ f:MS,sSeq (sIf (zaW (vOp gEq (vVar 2) (zfs ["Sums"] 0 "levels"))) (sExp (zeS ["Sums"] 0 "levels")) sNx) (sSeq (sAsg (vFIx ["Sums"] 0 "levels" (vVar 2)) (gN 3)) (sSeq (sExp (vBM zcN (vVar 3) (zac (vVar 1) a0))) f)) [some (.cel s),some (sgE g),some (.int j),none] Ω
    = f [some (.cel s),some (sgE g),some (.int j),some (.cel c)] Ω2:=by
   intro f
   rw [zav r1]
   rw [zav (ρ1:=[some (.cel s),some (sgE g),some (.int j),some (.cel c)]) (Ω':=Ω1) (by simp [vFIx,ow1,hat])]
   rw [zav (ρ1:=[some (.cel s),some (sgE g),some (.int j),some (.cel c)]) (Ω':=Ω2) (by
    rw [← hΩ2,eS]
    generalize S.map sgE=u at cl1 hz1
    simp [il,cl1,hz1])]
  by_cases hov:k ≤ S.length
  ·
   obtain ⟨a,b,t,rfl⟩ : ∃ a b t,S=a :: b :: t:=by
    match S,hov with
    | a :: b :: t,_=>exact ⟨a,b,t,rfl⟩
    | [],q=>simp at q;omega
    | [a],q=>simp at q;omega
   obtain ⟨rfl,rfl,rfl⟩ : L1=L∧cs1=cs∧Ω1=Ω:=by
    rcases d1 with z | z
    ·exact z
    ·exact absurd z.1 (by simp)
   have ha:a ≠ []:=hSn a (by simp)
   have hb:b ≠ []:=hSn b (by simp)
   have hjc2:j < cs1.length:=hjc
   obtain ⟨h3,f3⟩:=h2.rep (j:=j) (S':=t ++ [g]) hjc2
   rw [List.set_set] at h3
   have cut:cutA ((a :: b :: t ++ [g]).map sgE) (some 2) none=(t ++ [g]).map sgE:=by
    have:=zeY ((a :: b :: t ++ [g]).map sgE) 2 (by simp)
    simpa using this
   have hl2:s < Ω2.length:=h2.lt
   have h2':zaz (Ω2 ++ [Cell.lst ((t ++ [g]).map sgE)]) s k m (L1.set j (a :: b :: t ++ [g])) cs1:=by
    refine ⟨by rw [List.getElem?_append_left hl2];exact h2.obj,h2.len,fun i d S hi hS=>?_,h2.nd,h2.ns⟩
    rw [List.getElem?_append_left (h2.clt hi).1]
    exact h2.cel i d S hi hS
   have ow2:=zhg h2' (ρ:=[some (.cel s),some (sgE g),some (.int j),some (.cel c)]) rfl
   have ix:ixN cs1.length (j:Int)=some j:=by
    unfold ixN;simp [hjc]
   have em:(cs1.map A.cel).set j (.cel Ω2.length)=(cs1.set j Ω2.length).map A.cel:=by rw [List.map_set]
   have e3:((Ω2 ++ [Cell.lst ((t ++ [g]).map sgE)]).set s (.ins "Sums" (fsS k m (cs1.set j Ω2.length))))[c]? = some (.lst ((a :: b :: t ++ [g]).map sgE)):=by
    rw [List.getElem?_set_ne (Ne.symm hcs),List.getElem?_append_left (List.getElem?_eq_some_iff.mp e2).1];exact e2
   have hjL:j < L1.length:=by rw [← h1.len];exact hjc
   obtain ⟨Ω5,cs5,q5,h5,f5⟩:=ih (L1.set j (t ++ [g])) (cs1.set j Ω2.length) (j + 1) (a ++ b) _ s h3 (by simp;omega) (by simp;omega) (by simp [ha]) (fun S hS=>by
    rcases List.mem_or_eq_of_mem_set hS with z | z
    ·exact hL1 S z
    ·subst z
     refine ⟨by simp at hSk ⊢;omega,fun q hq=>?_⟩
     rcases List.mem_append.mp hq with z | z
     ·exact hSn q (by simp [z])
     ·simp at z;subst z;exact hg) (by simp;omega)
   generalize hΩ3:(Ω2 ++ [Cell.lst ((t ++ [g]).map sgE)]).set s (.ins "Sums" (fsS k m (cs1.set j Ω2.length)))=Ω3 at h3 f3 e3 q5 f5
   have li3:zaj Ω3 (.cel c)=some ((a :: b :: t ++ [g]).map sgE):=zan e3
   have tg:=zgk ha hb Ω3
   have ff:=((f1.trans f2).trans f3).trans f5
   have eL:(L1.set j (t ++ [g])).take (j + 1) ++ layS k (a ++ b) ((L1.set j (t ++ [g])).drop (j + 1))=L1.take j ++ layS k g (L1.drop j):=by
    rw [zfY (k:=k) (g:=g) hS]
    simp only [layS,if_pos hov]
    have e1:(L1.set j (t ++ [g])).take (j + 1)=L1.take j ++ [t ++ [g]]:=by
     rw [List.take_succ,List.getElem?_set_self hjL,List.take_set_of_le (Nat.le_refl _)];rfl
    rw [List.drop_set_of_lt (by omega),e1]
    simp
   refine ⟨Ω5,cs5,?_,eL ▸ h5,ff⟩
   show trim Ω1 (outR (zbf (zaB fuel) [some (.cel s),some (sgE g),some (.int j),none] Ω1))=_
   have hneq:Ω5[c]? ≠ Ω1[c]?:=by
    rw [f5.eq c (List.getElem?_eq_some_iff.mp e3).1 hcs (fun z=>by
     obtain ⟨x,hx,ex⟩:=List.getElem_of_mem z
     simp only [List.length_set] at hx
     rw [List.getElem_set] at ex
     split at ex
     ·have:=(List.getElem?_eq_some_iff.mp e2).1;omega
     ·rename_i hne
      exact hne (zjD h1.nd hc (by rw [← ex];exact List.getElem?_eq_getElem hx))),e3,hce]
    intro z
    have:=congrArg (fun o=>match o with | some (Cell.lst ds)=>ds.length | _=>0) z
    simp at this
   have hb2:zbf (zaB fuel) [some (.cel s),some (sgE g),some (.int j),none] Ω1=some (.nx,[some (.cel s),some (sgE g),some (.int j),some (.cel c)],Ω5):=by
    unfold zbf
    rw [start]
    have hlk:(k:Int) < ((((a :: b :: t ++ [g]).map sgE).length:Nat):Int):=by simp at hov ⊢;omega
    have hz2:((t ++ [g]).map sgE).length ≤ sizeLine:=by rw [sizeLine_eq];simp at hSk ⊢;omega
    have si3:za9 Ω3 (.cel c)=some ((a :: b :: t ++ [g]).map sgE):=li3
    have a0':atI ((a :: b :: t ++ [g]).map sgE) 0=some (sgE a):=by simp
    have a1':atI ((a :: b :: t ++ [g]).map sgE) 1=some (sgE b):=by simp
    have ej:((j + 1:Nat):Int)=(j:Int) + 1:=by omega
    rw [ej] at q5
    have cnd:(zaW (vOp gGt (vCl gLen (zac (vVar 3) a0)) (vFld ["Sums"] "keep" (vVar 0)))) [some (.cel s),some (sgE g),some (.int j),some (.cel c)] Ω2=some (.ok true,Ω2):=by
     generalize (a :: b :: t ++ [g]).map sgE=u at li2 hlk
     have kp':∀ (f:A→Mo A),mb (gFld ["Sums"] "keep" (.cel s)) f Ω2=f (.int k) Ω2:=fun f=>zcP kp
     have l1:(vCl gLen (zac (vVar 3) a0)) [some (.cel s),some (sgE g),some (.int j),some (.cel c)] Ω2=some (.ok (.int (u.length:Int)),Ω2):=by simp [li2]
     have l2:(vFld ["Sums"] "keep" (vVar 0)) [some (.cel s),some (sgE g),some (.int j),some (.cel c)] Ω2=some (.ok (.int k),Ω2):=by
      simp only [vFld,vVar]
      rw [zcP (x:=A.cel s) (Ω':=Ω2) (by simp)]
      exact kp
     simp only [zaW,vOp]
     rw [zcP (x:=A.bl true) (Ω':=Ω2) (by rw [zcP l1,zcP l2];simp [hlk])]
     simp
    rw [zmr cnd]
    rw [zav (ρ1:=[some (.cel s),some (sgE g),some (.int j),some (.cel c)]) (Ω':=Ω3) (by
     rw [← hΩ3]
     have hv:(vSl true (vVar 3) (zfe (cI 2)) sl0) [some (.cel s),some (sgE g),some (.int j),some (.cel c)] Ω2=some (.ok (.cel Ω2.length),Ω2 ++ [.lst ((t ++ [g]).map sgE)]):=by
      generalize (a :: b :: t ++ [g]).map sgE=u at li2 cut
      generalize (t ++ [g]).map sgE=w at cut hz2
      simp [li2,cut,hz2]
     unfold sAsg
     rw [zdt hv]
     have ep:=ziT (k:=k) (m:=m) (cs:=cs1) (cs1.set j Ω2.length)
     rw [← em] at ep
     simp only [zh3,ow2]
     simp [ix,ep])]
    have call:(zdL "lay" [("Sums",zcJ 3 [] (zaB fuel))] (vVar 0) (zac (vCl (zaH 2 zbw) (zac (vOp gIx (vVar 3) (cI 0)) (zac (vOp gIx (vVar 3) (cI 1)) a0))) (zac (vOp (gAdd false) (vVar 2) (cI 1)) a0))) [some (.cel s),some (sgE g),some (.int j),some (.cel c)] Ω3=some (.ok .non,Ω5):=by
     have ob:=h3.obj
     have lk:(fsS k m (cs1.set j Ω2.length)).lookup ("lay" : Str)=none:=rfl
     generalize (a :: b :: t ++ [g]).map sgE=u at si3 a0' a1'
     simp [zaH,zcJ,si3,li3,a0',a1',tg,ob,lk,q5,List.lookup]
    unfold sExp
    rw [zdt call]
   rw [hb2]
   simp only [zes]
   exact zdB hcl hneq
  ·
   have hjL:j < L1.length:=by rw [← h1.len];exact hjc
   have eL:L1.set j (S ++ [g])=L.take j ++ layS k g (L.drop j):=by
    rw [hly,zfY (k:=k) (g:=g) hS,← ht]
    simp only [layS,if_neg hov]
    rw [List.set_eq_take_append_cons_drop,if_pos hjL]
   refine ⟨Ω2,cs1,?_,eL ▸ h2,f1.trans f2⟩
   show trim Ω (outR (zbf (zaB fuel) [some (.cel s),some (sgE g),some (.int j),none] Ω))=_
   have hb2:zbf (zaB fuel) [some (.cel s),some (sgE g),some (.int j),none] Ω=some (.nx,[some (.cel s),some (sgE g),some (.int j),some (.cel c)],Ω2):=by
    unfold zbf
    rw [start]
    have hlk:¬ (k:Int) < ((((S ++ [g]).map sgE).length:Nat):Int):=by simp at hov ⊢;omega
    have cnd:(zaW (vOp gGt (vCl gLen (zac (vVar 3) a0)) (vFld ["Sums"] "keep" (vVar 0)))) [some (.cel s),some (sgE g),some (.int j),some (.cel c)] Ω2=some (.ok false,Ω2):=by
     generalize (S ++ [g]).map sgE=u at li2 hlk
     have l1:(vCl gLen (zac (vVar 3) a0)) [some (.cel s),some (sgE g),some (.int j),some (.cel c)] Ω2=some (.ok (.int (u.length:Int)),Ω2):=by simp [li2]
     have l2:(vFld ["Sums"] "keep" (vVar 0)) [some (.cel s),some (sgE g),some (.int j),some (.cel c)] Ω2=some (.ok (.int k),Ω2):=by
      simp only [vFld,vVar]
      rw [zcP (x:=A.cel s) (Ω':=Ω2) (by simp)]
      exact kp
     simp only [zaW,vOp]
     rw [zcP (x:=A.bl false) (Ω':=Ω2) (by rw [zcP l1,zcP l2];simp [hlk])]
     simp
    unfold sIf
    rw [zdt cnd]
    simp
   rw [hb2]
   simp only [zes]
   rcases d1 with ⟨rfl,rfl,rfl⟩ | ⟨_,hne⟩
   ·refine zdB hcl ?_
    rw [e2,hce]
    intro z
    have:=congrArg (fun o=>match o with | some (Cell.lst ds)=>ds.length | _=>0) z
    simp at this
   ·refine zdB h.lt ?_
    rw [← hΩ2,List.getElem?_set_ne hcs]
    exact hne
end M
namespace M
open PySem L2 V2
theorem zem {k:Nat}:∀ {L:List (List Sg)} {j:Nat},Lv k j L→∀ S ∈ L,S.length ≤ k∧∀ q ∈ S,q ≠ []
 | [],_,_=>fun S h=>by simp at h
 | T :: r,j,h=>fun S hS=>by
  obtain ⟨h1,h2,h3,h4,h5⟩:=h
  rcases List.mem_cons.mp hS with z | z
  ·subst z
   refine ⟨h3,fun q hq e=>?_⟩
   have:=h1 q hq
   rw [e] at this
   have:=Nat.two_pow_pos j
   simp at *;omega
  ·exact zem h5 S z
theorem enc1 (x:Int):sgE [x] = .tup [.int 1, .int x, .int x, .int x]:=by simp [sgE,mnL,mxL]
theorem zmy {Ω:Sto} {s k m:Nat} {L:List (List Sg)} {cs:List Nat} (hk:2 ≤ k) (hk2:k ≤ 1000) (h:zaz Ω s k m L cs) (hl:Lv k 0 L) (hn:(zcy L).length ≤ 500) (x:Int) :
  ∃ Ω' cs',zbg [.cel s, .int x] Ω=some (.ok .non,Ω')∧zaz Ω' s k (m + 1) (layS k [x] L) cs'∧FrS Ω Ω' s cs cs':=by
 obtain ⟨h1,f1⟩:=h.many (m + 1)
 obtain ⟨Ω2,cs2,q,h2,f2⟩:=zmx k (m + 1) hk hk2 12 L cs 0 [x] _ s h1 (by omega) (by have:=zfW hl hn;omega) (by simp) (zem hl) (by have:=zfW hl hn;omega)
 simp only [List.take_zero,List.nil_append,List.drop_zero] at h2
 refine ⟨Ω2,cs2,?_,h2,f1.trans f2⟩
 have hne:Ω2[s]? ≠ Ω[s]?:=by
  rw [h2.obj,h.obj]
  intro z
  simp only [fsS,Option.some.injEq,Cell.ins.injEq,true_and,List.cons.injEq,Prod.mk.injEq,Fd.val.injEq,A.int.injEq] at z
  omega
 show trim Ω (outR (zcw [some (.cel s),some (.int x)] Ω))=_
 have ep:=zie (k:=k) (m:=m) (cs:=cs) (m + 1)
 have em:((m + 1:Nat):Int)=(m:Int) + 1:=by omega
 rw [em] at ep
 have l2:(vFld ["Sums"] "many" (vVar 0)) [some (.cel s),some (.int x)] Ω=some (.ok (.int m),Ω):=by
  simp only [vFld,vVar]
  rw [zcP (x:=A.cel s) (Ω':=Ω) (by simp)]
  exact zh1 h
 have e1:(zei ["Sums"] "many" (vVar 0) (vOp (gAdd false) (vFld ["Sums"] "many" (vVar 0)) (cI 1))) [some (.cel s),some (.int x)] Ω=some (.nx,[some (.cel s),some (.int x)],Ω.set s (.ins "Sums" (fsS k (m + 1) cs))):=by
  have l3:(vOp (gAdd false) (vFld ["Sums"] "many" (vVar 0)) (cI 1)) [some (.cel s),some (.int x)] Ω=some (.ok (.int ((m:Int) + 1)),Ω):=by
   simp only [vOp]
   rw [zcP l2]
   simp
  unfold zei
  rw [zdt l3]
  rw [zdt (x:=A.cel s) (Ω':=Ω) (by simp)]
  simp only [h.obj]
  rw [if_pos ⟨by simp,by simp [fsS]⟩,ep]
 have e:zcw [some (.cel s),some (.int x)] Ω=some (.nx,[some (.cel s),some (.int x)],Ω2):=by
  unfold zcw
  rw [zav e1]
  have ob:=h1.obj
  have lk:(fsS k (m + 1) cs).lookup ("lay" : Str)=none:=rfl
  have q':zaB 12 [.cel s, .tup [.int 1, .int x, .int x, .int x], .int 0] (Ω.set s (.ins "Sums" (fsS k (m + 1) cs)))=some (.ok .non,Ω2):=by rw [← enc1];exact q
  have s4:(4:Nat) ≤ sizeLine:=by decide
  generalize Ω.set s (.ins "Sums" (fsS k (m + 1) cs))=Ω1 at ob q'
  have call:(zdL "lay" [("Sums",zcJ 3 [] (zaB 12))] (vVar 0) (zac (vTup (zac (cI 1) (zac (vVar 1) (zac (vVar 1) (zac (vVar 1) a0))))) (zac (cI 0) a0))) [some (.cel s),some (.int x)] Ω1=some (.ok .non,Ω2):=by
   simp [zcJ,ob,lk,q',s4,List.lookup]
  unfold sExp
  rw [zdt call]
 rw [e]
 simp only [zes]
 exact zdB h.lt hne
theorem zje (k:Nat) (Ω:Sto):(zfq "Sums" 2 zay [.int k]) Ω=some (.ok (.cel Ω.length),Ω ++ [.ins "Sums" (fsS k 0 [])]):=by
 have e:zay [.cel Ω.length, .int k] (Ω ++ [.ins "Sums" []])=some (.ok .non,Ω ++ [.ins "Sums" (fsS k 0 [])]):=by
  show trim (Ω ++ [.ins "Sums" []]) (outR (zaP [some (.cel Ω.length),some (.int k)] (Ω ++ [.ins "Sums" []])))=_
  have e1:zaP [some (.cel Ω.length),some (.int k)] (Ω ++ [.ins "Sums" []])=some (.nx,[some (.cel Ω.length),some (.int k)],Ω ++ [.ins "Sums" (fsS k 0 [])]):=by
   unfold zaP
   rw [zav (ρ1:=[some (.cel Ω.length),some (.int k)]) (Ω':=Ω ++ [.ins "Sums" [("keep", .val (.int k))]]) (by simp [putD])]
   rw [zav (ρ1:=[some (.cel Ω.length),some (.int k)]) (Ω':=Ω ++ [.ins "Sums" [("keep", .val (.int k)),("many", .val (.int 0))]]) (by
    have p1:putD ("many" : Str) (Fd.val (.int 0)) ([("keep", .val (.int k))] : List (Str × Fd))=([("keep", .val (.int k)),("many", .val (.int 0))] : List (Str × Fd)):=rfl
    simp [p1])]
   have p2:putD ("levels" : Str) (Fd.lst []) ([("keep", .val (.int k)),("many", .val (.int 0))] : List (Str × Fd))=fsS k 0 []:=rfl
   have ob:objF ["Sums"] 0 [some (.cel Ω.length),some (.int k)] (Ω ++ [.ins "Sums" [("keep", .val (.int k)),("many", .val (.int 0))]])=some (Ω.length,("Sums" : Str),([("keep",Fd.val (.int k)),("many", .val (.int 0))] : List (Str × Fd))):=by
    simp [objF]
   have h0:(0:Nat) ≤ sizeLine:=by decide
   have cf:∀ n,ClF n (.lst []):=fun n=>by simp [ClF,ClL]
   simp only [zil,ob]
   simp [mkL,h0,p2,cf]
  rw [e1]
  simp only [zes]
  refine zdB (i:=Ω.length) (by simp) ?_
  simp [fsS]
 simp [zfq,e]
theorem zde:∀ L:List (List Sg),zae L=L.reverse.flatten
 | []=>rfl
 | S :: r=>by simp [zae,zde r]
theorem zif (n:Nat) (gs:List Sg):ClL n (gs.map sgE):=zgE fun a h=>by
 obtain ⟨g,_,rfl⟩:=List.mem_map.mp h
 simp [sgE,Cl,ClL]
theorem zdD (B:Sto) (n s:Nat) (hn:B.length=n) (LV:Cell) (ok:Sto→Prop) (hok:∀ told,ok (B ++ [.lst told,LV])):∀ (ps:List (Nat × List Sg)) (acc:List Sg) (x2:Option A),(∀ p ∈ ps,B[p.1]? = some (.lst (p.2.map sgE)))→acc.length + (ps.flatMap (·.2)).length ≤ 100000 →
  ∃ y2,(y2=x2∨∃ p ∈ ps,y2=some (.cel p.1))∧fFor ok (gN 2) zaJ (ps.map fun p=>A.cel p.1) [some (.cel s),some (.cel n),x2] (B ++ [.lst (acc.map sgE),LV])
   = some (.nx,[some (.cel s),some (.cel n),y2],B ++ [.lst ((acc ++ ps.flatMap (·.2)).map sgE),LV])
 | [],acc,x2,_,_=>⟨x2, .inl rfl,by simp [fFor,hok]⟩
 | p :: ps,acc,x2,h,hz=>by
  simp only [List.flatMap_cons,List.length_append] at hz
  obtain ⟨y2,hy,q⟩:=zdD B n s hn LV ok hok ps (acc ++ p.2) (some (.cel p.1)) (fun r hr=>h r (List.mem_cons_of_mem _ hr)) (by rw [List.length_append];omega)
  have hp:=h p (List.mem_cons_self ..)
  have hpl:p.1 < B.length:=(List.getElem?_eq_some_iff.mp hp).1
  refine ⟨y2,?_,?_⟩
  ·rcases hy with z | ⟨r,hr,z⟩
   ·exact .inr ⟨p,List.mem_cons_self ..,z⟩
   ·exact .inr ⟨r,List.mem_cons_of_mem _ hr,z⟩
  ·rw [List.map_cons,List.flatMap_cons,← List.append_assoc,← q]
   refine zbq (hok _) (ρ0:=[some (.cel s),some (.cel n),some (.cel p.1)]) (Ω0:=B ++ [.lst (acc.map sgE),LV]) (by simp) ?_
   have g1:(B ++ [Cell.lst (acc.map sgE),LV])[n]? = some (.lst (acc.map sgE)):=by rw [← hn];exact st_a B _ _
   have g2:(B ++ [Cell.lst (acc.map sgE),LV])[p.1]? = some (.lst (p.2.map sgE)):=by rw [List.getElem?_append_left hpl];exact hp
   have l1:zcW (B ++ [Cell.lst (acc.map sgE),LV]) (.cel n)=some (n,acc.map sgE):=zbU g1
   have il:isL (B ++ [Cell.lst (acc.map sgE),LV]) (.cel n):=zdC (zan g1)
   have l2:zbb (B ++ [Cell.lst (acc.map sgE),LV]) (.cel p.1)=some (p.2.map sgE):=by simp [zbb,g2]
   have hz2:(acc.map sgE).length + (p.2.map sgE).length ≤ sizeLine:=by rw [sizeLine_eq];simp;omega
   have e:(acc ++ p.2).map sgE=acc.map sgE ++ p.2.map sgE:=by simp
   have st:(B ++ [Cell.lst (acc.map sgE),LV]).set n (.lst ((acc ++ p.2).map sgE))=B ++ [.lst ((acc ++ p.2).map sgE),LV]:=by rw [← hn];exact zmv B _ _ _
   rw [← st,e]
   generalize hΩ:B ++ [Cell.lst (acc.map sgE),LV]=Ω0 at l1 il l2
   generalize acc.map sgE=u at l1 hz2
   generalize p.2.map sgE=w at l2 hz2
   simp [zaJ,il,l1,l2,hz2]
theorem zfy {Ω:Sto} {s k m:Nat} {L:List (List Sg)} {cs:List Nat} (h:zaz Ω s k m L cs) (hz:(zae L).length ≤ 100000) (hz2:L.length ≤ 1000):∃ y2,zex 0 "levels" (sFor (zhI (vFld ["Sums"] "levels" (vVar 0))) (gN 2) zaJ) [some (.cel s),some (.cel Ω.length),none] (Ω ++ [.lst []]) (.nx,[some (.cel s),some (.cel Ω.length),y2],Ω ++ [.lst ((zae L).map sgE)]):=by
 have hs:=h.lt
 let B:Sto:=Ω.set s (.ins "Sums" (putD "levels" (.val (.cel (Ω.length + 1))) (fsS k m cs)))
 have hB:B.length=Ω.length:=by simp [B]
 have cel:∀ p ∈ (cs.zip L).reverse,B[p.1]? = some (.lst (p.2.map sgE)):=fun p hp=>by
  rw [List.mem_reverse] at hp
  obtain ⟨j,hj,e⟩:=List.getElem_of_mem hp
  simp only [List.length_zip] at hj
  have e1:cs[j]? = some p.1:=by rw [← e,List.getElem_zip];exact List.getElem?_eq_getElem (by omega)
  have e2:L[j]? = some p.2:=by rw [← e,List.getElem_zip];exact List.getElem?_eq_getElem (by omega)
  show (Ω.set s _)[p.1]? = _
  rw [List.getElem?_set_ne (Ne.symm (h.clt e1).2)]
  exact h.cel j p.1 p.2 e1 e2
 have fm:(cs.zip L).reverse.flatMap (·.2)=zae L:=by
  rw [zde,List.flatMap_def,List.map_reverse,List.map_snd_zip (by rw [h.len];exact Nat.le_refl _)]
 have mc:((cs.zip L).reverse.map fun p=>A.cel p.1)=(cs.map A.cel).reverse:=by
  rw [List.map_reverse]
  congr 1
  have:((cs.zip L).map fun p=>A.cel p.1)=((cs.zip L).map (·.1)).map A.cel:=by simp [List.map_map]
  rw [this,List.map_fst_zip (by rw [h.len];exact Nat.le_refl _)]
 have lv:∀ told:List A,zaj (B ++ [.lst told, .lst (cs.map A.cel)]) (.cel (Ω.length + 1))=some (cs.map A.cel):=fun told=>zan (by rw [← hB];exact st_b B _ _)
 obtain ⟨y2,hy,q⟩:=zdD B Ω.length s hB (.lst (cs.map A.cel)) (fun Ω'=>zaj Ω' (.cel (Ω.length + 1))=some (cs.map A.cel)) lv (cs.zip L).reverse [] none cel (by rw [fm];simp;omega)
 rw [fm,mc,List.nil_append] at q
 have e0:(Ω ++ [Cell.lst []])[s]? = some (.ins "Sums" (fsS k m cs)):=by rw [List.getElem?_append_left hs];exact h.obj
 have eB:lent (Ω ++ [Cell.lst []]) s "Sums" "levels" (fsS k m cs) (.lst (cs.map A.cel))=B ++ [.lst [], .lst (cs.map A.cel)]:=by
  show (Ω ++ [Cell.lst []]).set s _ ++ [_]=_
  rw [List.set_append_left _ _ hs]
  simp [B]
 have back:B.set s (.ins "Sums" (fsS k m cs))=Ω:=by
  show (Ω.set s _).set s _=Ω
  rw [List.set_set]
  apply List.ext_getElem?
  intro i
  by_cases hi:s=i
  ·subst hi;rw [List.getElem?_set_self hs,h.obj]
  ·rw [List.getElem?_set_ne hi]
 refine ⟨y2,?_⟩
 show zex 0 "levels" (sFor (zhI (vFld ["Sums"] "levels" (vVar 0))) (gN 2) zaJ) [some (.cel s),some (.cel Ω.length),none] (Ω ++ [.lst []]) (.nx,[some (.cel s),some (.cel Ω.length),y2],Ω ++ [.lst ((zae L).map sgE)])
 ·refine ⟨s, "Sums",fsS k m cs, .lst (cs.map A.cel), .lst (cs.map A.cel),B ++ [.lst ((zae L).map sgE)], .lst (cs.map A.cel), .lst (cs.map A.cel),rfl,e0,rfl,rfl,?_,by simp [hB],?_,rfl,fun i x hi hx=>?_, .inl rfl,fun j d hj=>?_,rfl,?_⟩
  ·rw [eB]
   have fv:(vFld ["Sums"] "levels" (vVar 0)) [some (.cel s),some (.cel Ω.length),none] (B ++ [.lst [], .lst (cs.map A.cel)])=some (.ok (.cel (Ω.length + 1)),B ++ [.lst [], .lst (cs.map A.cel)]):=by
    simp only [vFld,vVar]
    rw [zcP (x:=A.cel s) (Ω':=B ++ [.lst [], .lst (cs.map A.cel)]) (by simp)]
    have:(B ++ [Cell.lst [], .lst (cs.map A.cel)])[s]? = some (.ins "Sums" (putD "levels" (.val (.cel (Ω.length + 1))) (fsS k m cs))):=by
     rw [List.getElem?_append_left (by rw [hB];exact hs)]
     exact List.getElem?_set_self hs
    simp only [gFld,this]
    rfl
   rw [forO (S:=zeV (.cel (Ω.length + 1)) (cs.map A.cel)) (Ω':=B ++ [.lst [], .lst (cs.map A.cel)]) (by
    simp only [zhI]
    rw [zcP fv]
    simp [lv])]
   have q':=q
   simp only [List.append_assoc,List.cons_append,List.nil_append]
   exact q'
  ·rw [List.getElem?_append_left (by rw [hB];exact hs)]
   have:(Ω ++ [Cell.lst []]).length=Ω.length + 1:=by simp
   rw [this]
   exact List.getElem?_set_self hs
  ·by_cases hil:i < Ω.length
   ·rw [List.getElem?_append_left (by rw [hB];exact hil)] at hx
    have:B[i]? = Ω[i]?:=List.getElem?_set_ne (Ne.symm hi)
    rw [this] at hx
    exact .inl (by rw [List.getElem?_append_left hil];exact hx)
   ·right
    rw [List.getElem?_append_right (by rw [hB];omega)] at hx
    have hi0:i - B.length=0:=by
     have:=(List.getElem?_eq_some_iff.mp hx).1
     simp at this;omega
    rw [hi0] at hx
    simp at hx;subst hx
    exact zif _ _
  ·match j,hj with
   | 0,hj=>exact .inl hj
   | 1,hj=>exact .inl hj
   | 2,hj =>
    simp at hj
    rcases hy with z | ⟨p,hp,z⟩
    ·rw [z] at hj;cases hj
    ·rw [z] at hj;cases hj
     right
     have:=(List.getElem?_eq_some_iff.mp (cel p hp)).1
     simp only [Cl,List.length_append,List.length_singleton]
     omega
   | j + 3,hj=>simp at hj
  ·show Ω ++ [.lst ((zae L).map sgE)]=(B ++ [Cell.lst ((zae L).map sgE)]).set s (.ins "Sums" (fsS k m cs))
   rw [List.set_append_left _ _ (by rw [hB];exact hs),back]
end M
namespace M
open PySem L2 V2
end M
namespace M
open PySem L2 V2
def Ch (l s:Int):Int→Int→Option Int→List E→Prop
 | lo,hp,_,[]=>lo=s∧hp=s
 | lo,hp,pr,e :: r=>(∀ p,pr=some p→p ≤ e.1)∧(pr=some e.1∨e.2.2 ≤ lo + l + 1)∧lo < e.2.1∧hp < e.2.2∧e.2.1 ≤ e.2.2∧e.2.2 - e.2.1 ≤ l∧Ch l s e.2.1 e.2.2 (some e.1) r
def zlq (es:List E):Prop:=∀ e r,es=e :: r→e.2.1=1∧e.2.2=1
structure GF (s l d:Int) (es:List E):Prop where
 s0:0 ≤ s
 l0:0 ≤ l
 d0:0 ≤ d
 fst:zlq es
 ch:Ch l s 0 0 none es
theorem Ch.bound {l s:Int}:∀ {es:List E} {lo hp:Int} {pr:Option Int},Ch l s lo hp pr es→lo ≤ s∧hp ≤ s
 | [],_,_,_,h=>⟨Int.le_of_eq h.1,Int.le_of_eq h.2⟩
 | e :: r,_,_,_,h=>by
  obtain ⟨_,_,h3,h4,_,_,h7⟩:=h
  have:=Ch.bound h7
  omega
end M
namespace M
open PySem L2 V2
def zmB (l:Int) (k y:E):Bool:=decide (y.1=k.1) || decide (y.2.2 ≤ k.2.1 + l + 1)
end M
namespace V2
open PySem L2
end V2
namespace M
open PySem L2 V2
end M
namespace M
open PySem L2 V2
def okE (s l:Int) (n i:Nat) (p e:E):Prop:=(i=0→e.2.1=1∧e.2.2=1)∧(i + 1=n→e.2.1=s∧e.2.2=s)∧(e.2.1 ≤ e.2.2∧e.2.2 - e.2.1 ≤ l)∧(i ≠ 0→(p.1 ≤ e.1∧p.2.1 < e.2.1∧p.2.2 < e.2.2)∧zmB l p e=true)
instance (s l:Int) (n i:Nat) (p e:E):Decidable (okE s l n i p e):=by unfold okE;infer_instance
end M
namespace M
open PySem L2 V2
end M
namespace M
open PySem L2 V2
end M
namespace M
open PySem L2 V2
end M
namespace M
open PySem L2 V2
end M
namespace M
open PySem L2 V2
end M
namespace M
open PySem L2 V2
end M
namespace M
open PySem L2 V2
end M
namespace M
open PySem L2 V2
end M
namespace M
open PySem L2 V2
theorem sl3 (n a b:Int) (Ω:Sto):gSl false (.tup [.int n, .int a, .int b]) (some 1) none Ω=some (.ok (.tup [.int a, .int b]),Ω):=by
 have h1:HT.sIx 3 0 (some 1)=1:=by decide
 have h2:HT.sIx 3 3 none=3:=rfl
 simp [h1,cutA,h2]
structure Po where
 s:Int
 l:Int
 d:Int
 es:List E
structure Ok (keep:Int) (m:Nat) (p:Po):Prop where
 gf:GF p.s p.l p.d p.es
 kp:keep * p.l ≤ p.d * p.s
 dm:p.d ≤ m
end M
namespace M
open PySem L2 V2
end M
namespace M
open PySem L2 V2
def Tn (R:List Rn):Prop:=∀ r ∈ R,0 ≤ r.2
theorem Tn.head {r:Rn} {R:List Rn} (h:Tn (r :: R)):0 ≤ r.2:=h r (List.mem_cons_self ..)
def Pl (R:List Rn):Int→List E→Prop
 | _,[]=>True
 | z,e :: r=>∃ p,z < p∧und R e.1 < p∧p ≤ upt R e.1∧e.2.1 ≤ p∧p ≤ e.2.2∧Pl R p r
theorem Pl.low {R:List Rn} {z z':Int}:∀ {es:List E},Pl R z es→z' ≤ z→Pl R z' es
 | [],_,_=>trivial
 | _ :: _,⟨p,h,q⟩,l=>⟨p,by omega,q⟩
theorem Pl.sub {R:List Rn}:∀ {es fs:List E} {z:Int},es.Sublist fs→Pl R z fs→Pl R z es
 | _,_,_, .slnil,_=>trivial
 | _,_,_, .cons a s,⟨p,h,q⟩=>Pl.sub s (q.2.2.2.2.low (by omega))
 | _,_,_, .cons_cons a s,⟨p,h,q1,q2,q3,q4,q5⟩=>⟨p,h,q1,q2,q3,q4,Pl.sub s q5⟩
def NfP (es:List E):Prop:=es.Pairwise fun a b=>a.1 ≤ b.1
theorem NfP.next {e f:E} {es:List E} (h:NfP (e :: f :: es)):e.1 ≤ f.1:=(List.pairwise_cons.mp h).1 f (List.mem_cons_self ..)
structure Gd (R:List Rn) (p:Po):Prop where
 tn:Tn R
 gf:GF p.s p.l p.d p.es
 sz:p.s=whole R
 pl:Pl R 0 p.es
end M
namespace M
open PySem L2 V2
end M
namespace M
open PySem L2 V2
inductive Due | row (j:Nat) | pouch (j:Nat) | size | wrong (j:Nat) | good
end M
namespace M
open PySem L2 V2
end M
namespace M
open PySem L2 V2
def lenZ (gs:List Sg):List Int:=gs.map fun g=>(g.length:Int)
theorem zcR (a b:List Sg):lenZ (a ++ b)=lenZ a ++ lenZ b:=by simp [lenZ]
theorem zee (i:Int) (a b:List Int):cntI i (a ++ b)=cntI i a + cntI i b:=by simp [cntI]
theorem zgI {i:Int} {a:List Int} (h:∀ x ∈ a,x ≠ i):cntI i a=0:=by
 unfold cntI
 rw [List.countP_eq_zero]
 intro x hx;simpa using h x hx
theorem zfl {i:Int} {a:List Int} (h:∀ x ∈ a,x=i):cntI i a=a.length:=by
 unfold cntI
 rw [List.countP_eq_length]
 intro x hx;simpa using h x hx
theorem zlT {i:Int} {a b:List Int} (h:∀ x ∈ a,x ≠ i):ixI i (a ++ i :: b)=some a.length:=by
 unfold ixI
 rw [List.findIdx?_append]
 have:a.findIdx? (fun n=>n == i)=none:=by
  rw [List.findIdx?_eq_none_iff]
  intro x hx;simpa using h x hx
 rw [this]
 simp [List.findIdx?_cons]
theorem zg7 (ds:List A) (e:Nat) (h:e ≤ ds.length):cutA ds none (some (e:Int))=ds.take e:=by
 unfold cutA
 rw [HT.zet,HT.zfK,Nat.min_eq_left h]
 simp
theorem zgC {k:Nat}:∀ {L:List (List Sg)} {j:Nat},Lv k j L→∀ x ∈ lenZ (zae L),(2:Int) ^ j ≤ x
 | [],_,_,x,h=>by simp [zae,lenZ] at h
 | S :: r,j,hl,x,h=>by
  obtain ⟨h1,_,_,_,h5⟩:=hl
  simp only [zae,zcR] at h
  rcases List.mem_append.mp h with z | z
  ·have:=zgC h5 x z
   have e:(2:Int) ^ (j + 1)=2 * 2 ^ j:=by rw [Int.pow_succ];omega
   have p:(0:Int) < 2 ^ j:=by exact_mod_cast Nat.two_pow_pos j
   omega
  ·obtain ⟨g,hg,rfl⟩:=List.mem_map.mp z
   have:=h1 g hg
   have e:((g.length:Nat):Int)=(2:Int) ^ j:=by rw [this];norm_cast
   omega
abbrev E6 (k n:Int) (f:Nat) (x3:Option A) (sz:Int) (x5:Option A):Ev:=[some (.int k),some (.int n),some (.cel f),x3,some (.int sz),x5]
theorem join_loop {k:Nat} (hk:2 ≤ k) (hk2:k ≤ 1000) (n:Int) (x3:Option A) (Ω:Sto):∀ (L:List (List Sg)) (j:Nat) (g:Sg) (T:List Int) (Δ:Sto) (f:Nat) (x5:Option A) (fuel:Nat),Lv k j L→g.length=2 ^ j→(∀ t ∈ T,t < 2 ^ j)→j + L.length ≤ 40 →
  Ω.length ≤ f→(Ω ++ Δ)[f]? = some (.lst ((lenZ (zae L) ++ (2 ^ j:Int) :: T).map A.int))→(zae L).length + T.length ≤ 1000→L.length < fuel →
  ∃ Δ' f' sz' x5',Ω.length ≤ f'∧(Ω ++ Δ')[f']? = some (.lst ((lenZ (zae (layS k g L)) ++ T).map A.int)) ∧
   zbM zaE zbE fuel (E6 k n f x3 (2 ^ j) x5) (Ω ++ Δ)=some (.nx,E6 k n f' x3 sz' x5',Ω ++ Δ'):=by
 intro L
 induction L with
 | nil =>
  intro j g T Δ f x5 fuel hl hg hT hj hf hc hz hfu
  obtain ⟨fuel,rfl⟩ : ∃ q,fuel=q + 1:=⟨fuel - 1,by simp at hfu;omega⟩
  have eg:((g.length:Nat):Int)=(2:Int) ^ j:=by rw [hg];norm_cast
  have hcnt:cntI (2 ^ j) ((2 ^ j:Int) :: T)=1:=by
   have:=zee (2 ^ j) [(2 ^ j:Int)] T
   rw [zgI (a:=T) (fun x hx=>by have:=hT x hx;omega),zfl (a:=[(2 ^ j:Int)]) (by simp)] at this
   simpa using this
  refine ⟨Δ,f,2 ^ j,x5,hf,?_,zd3 ?_⟩
  ·rw [hc];simp [layS,zae,lenZ,eg]
  ·simp only [zae,lenZ,List.map_nil,List.nil_append] at hc
   have li:zbb (Ω ++ Δ) (.cel f)=some (((2 ^ j:Int) :: T).map A.int):=by simp [zbb,hc]
   have il:isL (Ω ++ Δ) (.cel f):=zdC (zan hc)
   have io:=zcV ((2 ^ j:Int) :: T)
   generalize ((2 ^ j:Int) :: T).map A.int=u at li io
   generalize (2 ^ j:Int) :: T=v at io hcnt
   generalize (2:Int) ^ j=p at hcnt
   have hk1:¬ (k:Int) < 1:=by omega
   simp [zaE,E6,il,li,io,hcnt,hk1]
 | cons S r ih =>
  intro j g T Δ f x5 fuel hl hg hT hj hf hc hz hfu
  obtain ⟨fuel,rfl⟩ : ∃ q,fuel=q + 1:=⟨fuel - 1,by simp at hfu;omega⟩
  obtain ⟨h1,h2,h3,h4,h5⟩:=hl
  have eg:((g.length:Nat):Int)=(2:Int) ^ j:=by rw [hg];norm_cast
  have pj:(0:Int) < 2 ^ j:=by exact_mod_cast Nat.two_pow_pos j
  have e2:(2:Int) ^ (j + 1)=2 * 2 ^ j:=by rw [Int.pow_succ];omega
  have hS:∀ x ∈ lenZ S,x=2 ^ j:=fun x hx=>by
   obtain ⟨q,hq,rfl⟩:=List.mem_map.mp hx
   rw [h1 q hq];norm_cast
  have hH:∀ x ∈ lenZ (zae r),x ≠ 2 ^ j:=fun x hx=>by have:=zgC h5 x hx;omega
  have eL:lenZ (zae (S :: r)) ++ (2 ^ j:Int) :: T=lenZ (zae r) ++ (lenZ S ++ (2 ^ j:Int) :: T):=by simp [zae,zcR]
  have hcnt:cntI (2 ^ j) (lenZ (zae (S :: r)) ++ (2 ^ j:Int) :: T)=S.length + 1:=by
   rw [eL,zee,zee,zgI hH,zfl hS]
   have:=zee (2 ^ j) [(2 ^ j:Int)] T
   rw [zgI (a:=T) (fun x hx=>by have:=hT x hx;omega),zfl (a:=[(2 ^ j:Int)]) (by simp)] at this
   have e3:cntI (2 ^ j) ((2 ^ j:Int) :: T)=1:=by simpa using this
   rw [e3];simp [lenZ]
  have li:zbb (Ω ++ Δ) (.cel f)=some ((lenZ (zae (S :: r)) ++ (2 ^ j:Int) :: T).map A.int):=by simp only [zbb,hc]
  have il:isL (Ω ++ Δ) (.cel f):=zdC (zan hc)
  have io:=zcV (lenZ (zae (S :: r)) ++ (2 ^ j:Int) :: T)
  by_cases hov:k ≤ S.length
  ·obtain ⟨a,b,t,rfl⟩ : ∃ a b t,S=a :: b :: t:=by
    match S,hov with
    | a :: b :: t,_=>exact ⟨a,b,t,rfl⟩
    | [],q=>simp at q;omega
    | [a],q=>simp at q;omega
   have la:=h1 a (by simp)
   have lb:=h1 b (by simp)
   have ea:((a.length:Nat):Int)=(2:Int) ^ j:=by rw [la];norm_cast
   have eb:((b.length:Nat):Int)=(2:Int) ^ j:=by rw [lb];norm_cast
   have eW:lenZ (zae ((a :: b :: t) :: r)) ++ (2 ^ j:Int) :: T=lenZ (zae r) ++ (2 ^ j:Int) :: ((2 ^ j:Int) :: (lenZ t ++ (2 ^ j:Int) :: T)):=by
    rw [eL];simp [lenZ,ea,eb]
   have hix:ixI (2 ^ j) (lenZ (zae ((a :: b :: t) :: r)) ++ (2 ^ j:Int) :: T)=some (lenZ (zae r)).length:=by rw [eW];exact zlT hH
   let T':List Int:=lenZ t ++ (2 ^ j:Int) :: T
   have hT':∀ x ∈ T',x < 2 ^ (j + 1):=fun x hx=>by
    rcases List.mem_append.mp hx with z | z
    ·have:=hS x (by
      obtain ⟨q,hq,e⟩:=List.mem_map.mp z
      exact List.mem_map.mpr ⟨q,by simp [hq],e⟩)
     omega
    ·rcases List.mem_cons.mp z with w | w
     ·omega
     ·have:=hT x w;omega
   have eW':lenZ (zae ((a :: b :: t) :: r)) ++ (2 ^ j:Int) :: T=lenZ (zae r) ++ (2 ^ j:Int) :: ((2 ^ j:Int) :: T'):=eW
   have hzl:(lenZ (zae r)).length + T'.length + 2 ≤ 1001:=by
    simp only [T',lenZ,List.length_map,List.length_append,List.length_cons,zae] at hz ⊢
    omega
   have tk:cutA ((lenZ (zae ((a :: b :: t) :: r)) ++ (2 ^ j:Int) :: T).map A.int) none (some ((lenZ (zae r)).length:Int))=(lenZ (zae r)).map A.int:=by
    rw [zg7 _ _ (by rw [eW'];simp),eW'];simp
   have dp:cutA ((lenZ (zae ((a :: b :: t) :: r)) ++ (2 ^ j:Int) :: T).map A.int) (some ((lenZ (zae r)).length + 2:Int)) none=T'.map A.int:=by
    have:=zeY ((lenZ (zae ((a :: b :: t) :: r)) ++ (2 ^ j:Int) :: T).map A.int) ((lenZ (zae r)).length + 2) (by rw [eW'];simp)
    have ec:(((lenZ (zae r)).length + 2:Nat):Int)=((lenZ (zae r)).length:Int) + 2:=by omega
    rw [ec] at this
    rw [this,eW',← List.map_drop]
    congr 1
    rw [List.drop_append]
    simp
   have hT'l:T'.length ≤ 1000:=by omega
   have hlt:(lenZ (zae r)).length ≤ 1000:=by omega
   obtain ⟨Δ',f',sz',x5',q1,q2,q3⟩:=ih (j + 1) (a ++ b) T' (Δ ++ [.lst ((lenZ (zae r) ++ (2 ^ (j + 1):Int) :: T').map A.int)]) (Ω ++ Δ).length (some (.int (lenZ (zae r)).length)) fuel h5 (by rw [List.length_append,la,lb,Nat.pow_succ];omega) hT' (by simp at hj ⊢;omega) (by simp) (by rw [← List.append_assoc];simp) (by
    simp only [lenZ,List.length_map] at hzl;omega) (by simp at hfu ⊢;omega)
   refine ⟨Δ',f',sz',x5',q1,?_,?_⟩
   ·rw [q2]
    simp only [layS,if_pos hov,zae,zcR,T']
    simp [lenZ,eg]
   ·rw [← q3]
    have hcn:zaE (E6 k n f x3 (2 ^ j) x5) (Ω ++ Δ)=some (.ok true,Ω ++ Δ):=by
     generalize (lenZ (zae ((a :: b :: t) :: r)) ++ (2 ^ j:Int) :: T).map A.int=u at li io
     generalize lenZ (zae ((a :: b :: t) :: r)) ++ (2 ^ j:Int) :: T=v at io hcnt
     generalize (2:Int) ^ j=p at hcnt
     have hk1:(k:Int) < (((a :: b :: t).length + 1:Nat):Int):=by omega
     generalize (a :: b :: t).length + 1=q at hcnt hk1
     simp [zaE,E6,il,li,io,hcnt,hk1]
    refine zfm hcn ?_
    have z1:¬ sizeLine < (lenZ (zae r)).length + 1:=by rw [sizeLine_eq];omega
    have z2:¬ sizeLine < (lenZ (zae r)).length + 1 + T'.length:=by rw [sizeLine_eq];omega
    have z3:(lenZ (zae r)).length ≤ sizeLine:=by rw [sizeLine_eq];omega
    have z4:T'.length ≤ sizeLine:=by rw [sizeLine_eq];omega
    have s1:(1:Nat) ≤ sizeLine:=by decide
    have m2:∀ x,CMul 2 x:=fun x=>zdG (by decide) (by decide)
    have eM:(lenZ (zae r) ++ (2 ^ (j + 1):Int) :: T').map A.int=(lenZ (zae r)).map A.int ++ (.int (2 * 2 ^ j) :: T'.map A.int):=by rw [e2];simp
    have si:za9 (Ω ++ Δ) (.cel f)=some ((lenZ (zae ((a :: b :: t) :: r)) ++ (2 ^ j:Int) :: T).map A.int):=zan hc
    have li':zaj (Ω ++ Δ) (.cel f)=some ((lenZ (zae ((a :: b :: t) :: r)) ++ (2 ^ j:Int) :: T).map A.int):=zan hc
    rw [eM,e2,← List.append_assoc]
    have lP:((lenZ (zae r)).map A.int).length=(lenZ (zae r)).length:=by simp
    have lT:(T'.map A.int).length=T'.length:=by simp
    generalize (lenZ (zae ((a :: b :: t) :: r)) ++ (2 ^ j:Int) :: T).map A.int=u at li io si li' tk dp
    generalize lenZ (zae ((a :: b :: t) :: r)) ++ (2 ^ j:Int) :: T=v at io hix
    generalize (lenZ (zae r)).map A.int=P at tk lP
    generalize T'.map A.int=Q at dp lT
    generalize (lenZ (zae r)).length=pl at hix tk dp z1 z2 z3 lP
    generalize T'.length=tl at z2 z4 lT
    generalize (2:Int) ^ j=p at hix
    generalize Ω ++ Δ=W at il li si li'
    unfold zbE
    rw [zav (ρ1:=E6 k n f x3 p (some (.int pl))) (Ω':=W) (by simp [E6,il,li,io,hix])]
    rw [zav (ρ1:=E6 k n W.length x3 p (some (.int pl))) (Ω':=W ++ [.lst (P ++ (.int (2 * p) :: Q))]) (by
     simp [E6,li',tk,dp,lP,lT,z1,z2,z3,z4,s1,m2,mkL])]
    simp [E6,m2]
  ·refine ⟨Δ,f,2 ^ j,x5,hf,?_,zd3 ?_⟩
   ·rw [hc]
    simp only [layS,if_neg hov,zae,zcR]
    simp [lenZ,eg]
   ·generalize (lenZ (zae (S :: r)) ++ (2 ^ j:Int) :: T).map A.int=u at li io
    generalize lenZ (zae (S :: r)) ++ (2 ^ j:Int) :: T=v at io hcnt
    generalize (2:Int) ^ j=p at hcnt
    have hk1:¬ (k:Int) < ((S.length + 1:Nat):Int):=by omega
    have:=hcnt
    generalize hq:S.length + 1=q at hcnt hk1
    simp [zaE,E6,il,li,io,hcnt,hk1]
end M
namespace M
open PySem L2 V2
def shp (L:List (List Sg)):List (List Nat):=L.map fun S=>S.map List.length
def layN (k:Nat):Nat→List (List Sg)
 | 0=>[]
 | n + 1=>layS k [0] (layN k n)
theorem zgD {k:Nat}:∀ {L L':List (List Sg)} {g g':Sg},shp L=shp L'→g.length=g'.length→shp (layS k g L)=shp (layS k g' L')
 | [],[],g,g',_,hg=>by simp [layS,shp,hg]
 | [],_ :: _,_,_,h,_=>by simp [shp] at h
 | _ :: _,[],_,_,h,_=>by simp [shp] at h
 | S :: r,S' :: r',g,g',h,hg=>by
  simp only [shp,List.map_cons,List.cons.injEq] at h
  obtain ⟨h1,h2⟩:=h
  have hl:S.length=S'.length:=by have:=congrArg List.length h1;simpa using this
  simp only [layS]
  by_cases c:k ≤ S.length
  ·rw [if_pos c,if_pos (by omega)]
   match S,S',h1,hl with
   | [],[],_,_=>simp [shp,hg,h2]
   | [a],[a'],h1,_=>simp at h1;simp [shp,hg,h2,h1]
   | a :: b :: t,a' :: b' :: t',h1,_ =>
    simp only [List.map_cons,List.cons.injEq] at h1
    have ih:=zgD (k:=k) (L:=r) (L':=r') (g:=a ++ b) (g':=a' ++ b') h2 (by simp [h1.1,h1.2.1])
    simp only [shp] at ih
    simp [shp,hg,h1.2.2,ih]
   | [],_ :: _,_,hl=>simp at hl
   | _ :: _,[],_,hl=>simp at hl
   | [_],_ :: _ :: _,_,hl=>simp at hl
   | _ :: _ :: _,[_],_,hl=>simp at hl
  ·rw [if_neg c,if_neg (by omega)]
   simp [shp,hg,h1,h2]
theorem zhz:∀ {L L':List (List Sg)},shp L=shp L'→lenZ (zae L)=lenZ (zae L')
 | [],[],_=>rfl
 | [],_ :: _,h=>by simp [shp] at h
 | _ :: _,[],h=>by simp [shp] at h
 | S :: r,S' :: r',h=>by
  simp only [shp,List.map_cons,List.cons.injEq] at h
  have ih:=zhz (L:=r) (L':=r') h.2
  have e:lenZ S=lenZ S':=by
   have:=congrArg (List.map fun (n:Nat)=>(n:Int)) h.1
   rw [List.map_map,List.map_map] at this
   exact this
  simp only [zae,zcR,ih,e]
theorem zea {k:Nat} (hk:2 ≤ k):∀ n,Lv k 0 (layN k n)
 | 0=>trivial
 | n + 1=>zgB hk (zea hk n) (by simp)
theorem zfz {k:Nat} (hk:2 ≤ k):∀ n,(zcy (layN k n)).length=n
 | 0=>rfl
 | n + 1=>by
  show (zcy (layS k [0] (layN k n))).length=n + 1
  rw [zeo hk,List.length_append,zfz hk n];rfl
theorem zdA:∀ (gs:List Sg),(∀ g ∈ gs,g ≠ [])→gs.length ≤ gs.flatten.length
 | [],_=>by simp
 | g :: r,h=>by
  have a:=zdA r fun q hq=>h q (List.mem_cons_of_mem _ hq)
  have b:=h g (by simp)
  have:1 ≤ g.length:=by cases g with | nil=>exact absurd rfl b | cons x t=>simp
  simp only [List.length_cons,List.flatten_cons,List.length_append];omega
theorem zkf {k:Nat} (hk:2 ≤ k) (n:Nat):(zae (layN k n)).length ≤ n:=by
 have:=zdA (zae (layN k n)) (fun g hg=>by
  rw [zde] at hg
  obtain ⟨S,hS,hgS⟩:=List.mem_flatten.mp hg
  exact (zem (zea hk n) S (by simpa using hS)).2 g hgS)
 have e:=zfz hk n
 unfold zcy at e
 omega
theorem zhb {k:Nat} (hk:2 ≤ k) (hk2:k ≤ 1000) (n:Nat) (hn:n ≤ 400) (Ω:Sto):zaR [.int k, .int n] Ω=some (.ok (.lst ((lenZ (zae (layN k n))).map A.int)),Ω):=by
 show trim Ω (outR (zbJ [some (.int k),some (.int n),none,none,none,none] Ω))=_
 obtain ⟨ρ1,Ω1,q,Δ,f,x3,x4,x5,rfl,rfl,hf,hc⟩:=zdh (ok:=fun _=>True) (g:=gN 3) (b:=zbG)
  (fun i ρ Ω'=>∃ Δ f x3 x4 x5,ρ=[some (.int k),some (.int n),some (.cel f),x3,x4,x5]∧Ω'=Ω ++ Δ∧Ω.length ≤ f∧(Ω ++ Δ)[f]? = some (.lst ((lenZ (zae (layN k i))).map A.int))) (fun _ _ _ _=>trivial)
  ((List.range n).map fun (i:Nat)=>A.int (0 + (i:Int))) 0 [some (.int k),some (.int n),some (.cel Ω.length),none,none,none] (Ω ++ [.lst []]) ⟨[.lst []],Ω.length,none,none,none,rfl,rfl,Nat.le_refl _,by simp [layN,zae,lenZ]⟩
  (by
   rintro i a ρ Ω' ha ⟨Δ,f,x3,x4,x5,rfl,rfl,hf,hc⟩
   have hi:i < n:=by simpa using (List.getElem?_eq_some_iff.mp ha).1
   have ex:a = .int (i:Int):=by
    rw [List.getElem?_map,List.getElem?_range hi] at ha
    simpa using ha.symm
   subst ex
   rw [Nat.zero_add] at hc ⊢
   have hfl:f < (Ω ++ Δ).length:=(List.getElem?_eq_some_iff.mp hc).1
   have es:(Ω ++ Δ).set f (.lst ((lenZ (zae (layN k i)) ++ [1]).map A.int))=Ω ++ Δ.set (f - Ω.length) (.lst ((lenZ (zae (layN k i)) ++ [1]).map A.int)):=List.set_append_right _ _ hf
   have hc1:(Ω ++ Δ.set (f - Ω.length) (.lst ((lenZ (zae (layN k i)) ++ [1]).map A.int)))[f]? = some (.lst ((lenZ (zae (layN k i)) ++ (2 ^ 0:Int) :: []).map A.int)):=by
    rw [← es,List.getElem?_set_self hfl];simp
   have hB:=zkf hk i
   have hLn:=zfW (zea hk i) (by rw [zfz hk];omega)
   obtain ⟨Δ',f',sz',x5',q1,q2,q3⟩:=join_loop hk hk2 n (some (.int i)) Ω (layN k i) 0 [0] [] _ f x5 1000000 (zea hk i) (by simp) (by simp) (by omega) hf hc1 (by simp;omega) (by omega)
   refine ⟨[some (.int k),some (.int n),some (.cel f),some (.int i),x4,x5],Ω ++ Δ,_,_,by simp, .inl ?_,Δ',f',some (.int i),some (.int sz'),x5',rfl,rfl,q1,by simpa [layN] using q2⟩
   have il:isL (Ω ++ Δ) (.cel f):=zdC (zan hc)
   have cl:zcW (Ω ++ Δ) (.cel f)=some (f,(lenZ (zae (layN k i))).map A.int):=zbU hc
   have hz:((lenZ (zae (layN k i))).map A.int).length < sizeLine:=by rw [sizeLine_eq];simp [lenZ];omega
   have em:(lenZ (zae (layN k i)) ++ [1]).map A.int=(lenZ (zae (layN k i))).map A.int ++ [.int 1]:=by simp
   unfold zbG
   rw [zav (ρ1:=[some (.int k),some (.int n),some (.cel f),some (.int i),x4,x5]) (Ω':=Ω ++ Δ.set (f - Ω.length) (.lst ((lenZ (zae (layN k i)) ++ [1]).map A.int))) (by
    rw [← es,em]
    generalize (lenZ (zae (layN k i))).map A.int=u at cl hz
    generalize Ω ++ Δ=W at il cl
    simp [il,cl,hz])]
   rw [zav (ρ1:=[some (.int k),some (.int n),some (.cel f),some (.int i),some (.int 1),x5]) (Ω':=Ω ++ Δ.set (f - Ω.length) (.lst ((lenZ (zae (layN k i)) ++ [1]).map A.int))) (by simp)]
   exact q3)
 simp only [List.length_map,List.length_range,Nat.zero_add] at hc
 have e:zbJ [some (.int k),some (.int n),none,none,none,none] Ω=some (.ret (.lst ((lenZ (zae (layN k n))).map A.int)),[some (.int k),some (.int n),some (.cel f),x3,x4,x5],Ω ++ Δ.set (f - Ω.length) .dead):=by
  unfold zbJ
  rw [zav (ρ1:=[some (.int k),some (.int n),some (.cel Ω.length),none,none,none]) (Ω':=Ω ++ [.lst []]) (by simp [mkL])]
  rw [zav (ρ1:=[some (.int k),some (.int n),some (.cel f),x3,x4,x5]) (Ω':=Ω ++ Δ) (by
   rw [forO (S:=zb9 0 n) (Ω':=Ω ++ [.lst []]) (rngO (j:=(n:Int)) (by simp) (by unfold zbH;omega))]
   exact q)]
  have es:(Ω ++ Δ).set f .dead=Ω ++ Δ.set (f - Ω.length) .dead:=List.set_append_right _ _ hf
  rw [← es]
  generalize (lenZ (zae (layN k n))).map A.int=u at hc
  generalize Ω ++ Δ=W at hc
  simp [hc]
 rw [e]
 simp only [zdn]
 exact zf6 (by simp only [Cl];exact zgE fun a ha=>by obtain ⟨i,_,rfl⟩:=List.mem_map.mp ha;simp only [Cl])
theorem zgf {Ω:Sto} {s k m:Nat} {L:List (List Sg)} {cs:List Nat} (h:zaz Ω s k m L cs) (hz:(zae L).length ≤ 100000) (hz2:L.length ≤ 1000):zaK [.cel s] Ω=some (.ok (.cel Ω.length),Ω ++ [.lst ((zae L).map sgE)]):=by
 obtain ⟨y2,hl⟩:=zfy h hz hz2
 show trim Ω (outR (zaY [some (.cel s),none,none] Ω))=_
 have e:zaY [some (.cel s),none,none] Ω=some (.ret (.cel Ω.length),[some (.cel s),some (.cel Ω.length),y2],Ω ++ [.lst ((zae L).map sgE)]):=by
  unfold zaY
  rw [zav (ρ1:=[some (.cel s),some (.cel Ω.length),none]) (Ω':=Ω ++ [.lst []]) (by simp [mkL])]
  have hb:zbD=zaJ:=rfl
  rw [hb,zav (ziP hl)]
  simp
 rw [e]
 simp only [zdn,trim]
 rw [if_neg]
 rintro ⟨_,hcl⟩
 simp only [Cl] at hcl
 omega
end M
namespace M
open PySem L2 V2
theorem ziF (ds:List A) (a b:Nat) (h:a ≤ b) (h2:b ≤ ds.length):cutA ds (some (a:Int)) (some (b:Int))=(ds.drop a).take (b - a):=by
 unfold cutA
 rw [HT.zet,HT.zet,Nat.min_eq_left h2,Nat.min_eq_left (by omega)]
theorem zkD:∀ {g:Sg},g ≠ []→mnL g=minL g:=fun {g} h=>by
 refine zds ?_ fun x hx=>(zkx hx).1
 have:∀ g:Sg,g ≠ []→mnL g ∈ g:=by
  intro g
  induction g with
  | nil=>intro h;exact absurd rfl h
  | cons x r ih =>
   intro _
   simp only [mnL]
   split
   ·simp
   ·rename_i hr
    have:=ih hr
    by_cases c:x ≤ mnL r
    ·rw [Int.min_eq_left c];simp
    ·rw [Int.min_eq_right (by omega)];simp [this]
 exact this g h
theorem zjL:∀ {g:Sg},g ≠ []→mxL g=maxL g:=fun {g} h=>by
 refine zdH ?_ fun x hx=>(zkx hx).2
 have:∀ g:Sg,g ≠ []→mxL g ∈ g:=by
  intro g
  induction g with
  | nil=>intro h;exact absurd rfl h
  | cons x r ih =>
   intro _
   simp only [mxL]
   split
   ·simp
   ·rename_i hr
    have:=ih hr
    by_cases c:x ≤ mxL r
    ·rw [Int.max_eq_right c];simp [this]
    ·rw [Int.max_eq_left (by omega)];simp
 exact this g h
theorem zjg:∀ gs:List Sg,zipA (gs.map sgE) ((lenZ gs).map A.int)=gs.map fun g => .tup [sgE g, .int g.length]
 | []=>rfl
 | g :: r=>by
  have:=zjg r
  simp only [lenZ,List.map_cons,List.map_map] at this ⊢
  simp only [zipA]
  rw [← this]
theorem zhH (x0 x1 x2 x3 x4 x6 x7:Option A) (a b c d:Int) (Ω:Sto):za5 [x0,x1,x2,x3,x4,some (.tup [.int a, .int b, .int c, .int d]),x6,x7] Ω=some (.ok (.lst []),Ω):=by
 have:=zhX (n:=1) (js:=[]) (fi:=vSeq (vVar 5)) (g:=gN 0) (c:=(vOrT (zeX (zaW (vCl gIs1 (zac (vVar 0) (zac (cT "int") a0))))) (zaW (vCl gIs1 (zac (vVar 0) (zac (cT "bool") a0)))))) (e:=vVar 0) (ρ:=[x0,x1,x2,x3,x4,some (.tup [.int a, .int b, .int c, .int d]),x6,x7]) (Ω:=Ω) (Ω0:=Ω) (S:=srcOf (.tup [.int a, .int b, .int c, .int d]) [.int a, .int b, .int c, .int d]) (fun _=>none) (fun ρ=>∃ y,ρ=[y]) (by simp) (fun ys=>by simp [srcOf]) ⟨none,by simp [lcEv]⟩ (by simp [srcOf])
  (fun x hx ρ hP ys=>by
   obtain ⟨y,rfl⟩:=hP
   simp only [srcOf,List.mem_cons,List.not_mem_nil,or_false] at hx
   obtain ⟨i,rfl⟩ : ∃ i,x = .int i:=by rcases hx with z | z | z | z <;> exact ⟨_,z⟩
   exact ⟨[some (.int i)],⟨_,rfl⟩,by simp, .inr ⟨rfl,by simp⟩⟩) (by simp [ClL])
 simpa [za5,srcOf] using this
theorem zeJ (x0 x2 x3 x7:Option A) (r:Nat) (row:List Int) (g:Sg) (hg:g ≠ []) (at_:Nat) (Ω:Sto) (hrow:Ω[r]? = some (.lst (row.map A.int))) (hr:row.length ≤ 100000) (hl:at_ + g.length ≤ row.length) (hs:(row.drop at_).take g.length=g) :
  zaN [x0,some (.cel r),x2,x3,some (.int at_),some (sgE g),some (.int g.length),x7] Ω=some (.nx,[x0,some (.cel r),x2,x3,some (.int ((at_:Int) + g.length)),some (sgE g),some (.int g.length),some (.lst (g.map A.int))],Ω):=by
 have li:zaj Ω (.cel r)=some (row.map A.int):=zan hrow
 have cu:=ziF (row.map A.int) at_ (at_ + g.length) (by omega) (by simpa using hl)
 have ec:((at_ + g.length:Nat):Int)=(at_:Int) + g.length:=by omega
 rw [ec,Nat.add_sub_cancel_left,← List.map_drop,← List.map_take,hs] at cu
 have io:=zcV g
 have hz:(g.map A.int).length ≤ sizeLine:=by rw [sizeLine_eq];simp;omega
 have s4:(4:Nat) ≤ sizeLine:=by decide
 have em:sgE g = .tup [.int g.length, .int g.sum, .int (minL g), .int (maxL g)]:=by simp only [sgE,zkD hg,zjL hg]
 have ne1:gNe (.tup [.int g.length, .int g.sum, .int (minL g), .int (maxL g)]) (.tup [.int g.length, .int g.sum, .int (minL g), .int (maxL g)]) Ω=some (.ok (.bl false),Ω):=zfU (by simp [pur])
 have ne2:gNe (.lst []) (.lst []) Ω=some (.ok (.bl false),Ω):=zfU (by simp [pur])
 rw [em]
 have qq:=fun a0 a1 a2 a3 a4 a6 a7=>zhH a0 a1 a2 a3 a4 a6 a7 g.length g.sum (minL g) (maxL g) Ω
 unfold zaN
 rw [zav (ρ1:=[x0,some (.cel r),x2,x3,some (.int at_),some (.tup [.int g.length, .int g.sum, .int (minL g), .int (maxL g)]),some (.int g.length),some (.lst (g.map A.int))]) (Ω':=Ω) (by
  generalize g.map A.int=u at cu hz
  generalize row.map A.int=v at li cu
  generalize (g.length:Int)=gl at cu
  simp [li,cu,hz])]
 rw [zav (ρ1:=[x0,some (.cel r),x2,x3,some (.int at_),some (.tup [.int g.length, .int g.sum, .int (minL g), .int (maxL g)]),some (.int g.length),some (.lst (g.map A.int))]) (Ω':=Ω) (by
  generalize g.map A.int=u at io
  simp [io,hg,s4,ne1])]
 rw [zav (ρ1:=[x0,some (.cel r),x2,x3,some (.int at_),some (.tup [.int g.length, .int g.sum, .int (minL g), .int (maxL g)]),some (.int g.length),some (.lst (g.map A.int))]) (Ω':=Ω) (by simp [qq,ne2,mkL])]
 simp
theorem zda (ok:Sto→Prop) (Ω:Sto) (hok:ok Ω) (x0 x2 x3:Option A) (r:Nat) (row:List Int) (hrow:Ω[r]? = some (.lst (row.map A.int))) (hr:row.length ≤ 100000):∀ (post pre:List Sg) (x5 x6 x7:Option A),(∀ g ∈ post,g ≠ [])→(pre ++ post).flatten=row →
  ∃ z5 z6 z7,fFor ok (zhS 2 (zd6 (gN 5) (zd6 (gN 6) zjS))) zaN (post.map fun g => .tup [sgE g, .int g.length]) [x0,some (.cel r),x2,x3,some (.int (pre.flatten.length:Int)),x5,x6,x7] Ω=some (.nx,[x0,some (.cel r),x2,x3,some (.int (row.length:Int)),z5,z6,z7],Ω)
 | [],pre,x5,x6,x7,_,e=>⟨x5,x6,x7,by
  rw [List.append_nil] at e
  simp [fFor,hok,← e]⟩
 | g :: post,pre,x5,x6,x7,hg,e=>by
  have e':((pre ++ [g]) ++ post).flatten=row:=by rw [← e];simp
  obtain ⟨z5,z6,z7,q⟩:=zda ok Ω hok x0 x2 x3 r row hrow hr post (pre ++ [g]) (some (sgE g)) (some (.int g.length)) (some (.lst (g.map A.int))) (fun q hq=>hg q (List.mem_cons_of_mem _ hq)) e'
  refine ⟨z5,z6,z7,?_⟩
  have el:((pre ++ [g]).flatten.length:Int)=(pre.flatten.length:Int) + g.length:=by
   rw [List.flatten_append,List.length_append];simp
  have er:row=pre.flatten ++ (g ++ post.flatten):=by rw [← e];simp
  have t:=zeJ x0 x2 x3 x7 r row g (hg g (by simp)) pre.flatten.length Ω hrow hr (by rw [er];simp only [List.length_append];omega) (by rw [er];simp)
  rw [← q,List.map_cons,el]
  refine zbq hok (ρ0:=[x0,some (.cel r),x2,x3,some (.int (pre.flatten.length:Int)),some (sgE g),some (.int g.length),x7]) (Ω0:=Ω) ?_ t
  generalize (pre.flatten.length:Int)=pl
  generalize sgE g=G
  simp
structure Sm (Ω:Sto) (s r k:Nat) (row:List Int) (L:List (List Sg)) (cs:List Nat):Prop where
 at_:zaz Ω s k row.length L cs
 lv:Lv k 0 L
 fl:zcy L=row
 rowc:Ω[r]? = some (.lst (row.map A.int))
 sh:shp L=shp (layN k row.length)
 few:row.length ≤ 400
theorem Sm.pos {Ω:Sto} {s r k:Nat} {row:List Int} {L:List (List Sg)} {cs:List Nat} (h:Sm Ω s r k row L cs):∀ g ∈ zae L,g ≠ []:=fun g hg=>by
 rw [zde] at hg
 obtain ⟨S,hS,hgS⟩:=List.mem_flatten.mp hg
 exact (zem h.lv S (by simpa using hS)).2 g hgS
theorem Sm.fB {Ω:Sto} {s r k:Nat} {row:List Int} {L:List (List Sg)} {cs:List Nat} (h:Sm Ω s r k row L cs):(zae L).length ≤ 400:=by
 have:=zdA (zae L) h.pos
 have e:(zae L).flatten=row:=h.fl
 rw [e] at this
 have:=h.few
 omega
theorem Sm.fL {Ω:Sto} {s r k:Nat} {row:List Int} {L:List (List Sg)} {cs:List Nat} (h:Sm Ω s r k row L cs):L.length ≤ 9:=zfW h.lv (by rw [h.fl];have:=h.few;omega)
theorem zez {Ω:Sto} {s r k:Nat} {row:List Int} {L:List (List Sg)} {cs:List Nat} (h:Sm Ω s r k row L cs):zar [.cel s, .cel r, .lst ((lenZ (zae (layN k row.length))).map A.int)] Ω=some (.ok (.bl true),Ω):=by
 have hf:=h.few
 rw [← zhz h.sh]
 have bl:=zgf h.at_ (by have:=h.fB;omega) (by have:=h.fL;omega)
 have hrl:r < Ω.length:=(List.getElem?_eq_some_iff.mp h.rowc).1
 have hrow1:(Ω ++ [Cell.lst ((zae L).map sgE)])[r]? = some (.lst (row.map A.int)):=by rw [List.getElem?_append_left hrl];exact h.rowc
 have lt:zaj (Ω ++ [Cell.lst ((zae L).map sgE)]) (.cel Ω.length)=some ((zae L).map sgE):=zan (by simp)
 obtain ⟨z5,z6,z7,q⟩:=zda (fun Ω'=>zaj Ω' (.cel Ω.length)=some ((zae L).map sgE)∧zaj Ω' (.lst ((lenZ (zae L)).map A.int))=some ((lenZ (zae L)).map A.int)) (Ω ++ [.lst ((zae L).map sgE)]) ⟨lt,rfl⟩ (some (.cel s)) (some (.lst ((lenZ (zae L)).map A.int))) (some (.cel Ω.length)) r row hrow1 (by omega) (zae L) [] none none none h.pos (by rw [List.nil_append];exact h.fl)
 rw [← zjg] at q
 simp only [List.flatten_nil,List.length_nil,Int.natCast_zero] at q
 have ob:=h.at_.obj
 have lk:(fsS k row.length cs).lookup ("blocks" : Str)=none:=rfl
 have call:(zdL "blocks" [("Sums",zcJ 1 [] zaK)] (vVar 0) a0) [some (.cel s),some (.cel r),some (.lst ((lenZ (zae L)).map A.int)),none,none,none,none,none] Ω=some (.ok (.cel Ω.length),Ω ++ [.lst ((zae L).map sgE)]):=by
  generalize (zae L).map sgE=u at bl
  simp [zcJ,ob,lk,bl,List.lookup]
 have ty:tyA (Ω ++ [Cell.lst ((zae L).map sgE)]) (.cel Ω.length)=some "list":=zjO (ds:=(zae L).map sgE) (by simp)
 have hln:((zae L).map sgE).length=((lenZ (zae L)).map A.int).length:=by simp [lenZ]
 have hz:((zae L).map sgE).length < sizeLine:=by rw [sizeLine_eq];have:=h.fB;simp;omega
 have s4:(4:Nat) ≤ sizeLine:=by decide
 have cl:zcW (Ω ++ [Cell.lst ((zae L).map sgE)]) (.cel Ω.length)=some (Ω.length,(zae L).map sgE):=zbU (by simp)
 have il:isL (Ω ++ [Cell.lst ((zae L).map sgE)]) (.cel Ω.length):=zdC lt
 show trim Ω (outR (za7 [some (.cel s),some (.cel r),some (.lst ((lenZ (zae L)).map A.int)),none,none,none,none,none] Ω))=_
 have e:∃ ρ Δ,za7 [some (.cel s),some (.cel r),some (.lst ((lenZ (zae L)).map A.int)),none,none,none,none,none] Ω=some (.ret (.bl true),ρ,Ω ++ Δ):=by
  refine ⟨[some (.cel s),some (.cel r),some (.lst ((lenZ (zae L)).map A.int)),some (.cel Ω.length),some (.int row.length),z5,z6,z7],[.lst ((zae L).map sgE ++ [.tup [.int 1, .int 1, .int 1, .int 1]])],?_⟩
  unfold za7
  rw [zav (ρ1:=[some (.cel s),some (.cel r),some (.lst ((lenZ (zae L)).map A.int)),some (.cel Ω.length),none,none,none,none]) (Ω':=Ω ++ [.lst ((zae L).map sgE)]) (by
   unfold sAsg
   rw [zdt call]
   simp)]
  rw [zav (ρ1:=[some (.cel s),some (.cel r),some (.lst ((lenZ (zae L)).map A.int)),some (.cel Ω.length),none,none,none,none]) (Ω':=Ω ++ [.lst ((zae L).map sgE)]) (by
   generalize (zae L).map sgE=u at lt ty hln
   generalize (lenZ (zae L)).map A.int=v at hln
   generalize Ω ++ [Cell.lst u]=W at lt ty
   simp [ty,lt,hln])]
  rw [zav (ρ1:=[some (.cel s),some (.cel r),some (.lst ((lenZ (zae L)).map A.int)),some (.cel Ω.length),some (.int 0),none,none,none]) (Ω':=Ω ++ [.lst ((zae L).map sgE)]) (by simp)]
  rw [zav (ρ1:=[some (.cel s),some (.cel r),some (.lst ((lenZ (zae L)).map A.int)),some (.cel Ω.length),some (.int row.length),z5,z6,z7]) (Ω':=Ω ++ [.lst ((zae L).map sgE)]) (by
   rw [forO (S:=zipSrc (.cel Ω.length) (.lst ((lenZ (zae L)).map A.int)) ((zae L).map sgE) ((lenZ (zae L)).map A.int)) (Ω':=Ω ++ [.lst ((zae L).map sgE)]) (by
    generalize (zae L).map sgE=u at lt
    generalize (lenZ (zae L)).map A.int=v
    generalize Ω ++ [Cell.lst u]=W at lt
    simp [lt])]
   exact q)]
  rw [zav (ρ1:=[some (.cel s),some (.cel r),some (.lst ((lenZ (zae L)).map A.int)),some (.cel Ω.length),some (.int row.length),z5,z6,z7]) (Ω':=Ω ++ [.lst ((zae L).map sgE ++ [.tup [.int 1, .int 1, .int 1, .int 1]])]) (by
   generalize (zae L).map sgE=u at cl il hz
   simp [cl,il,hz,s4])]
  have li2:zaj (Ω ++ [Cell.lst ((zae L).map sgE ++ [.tup [.int 1, .int 1, .int 1, .int 1]])]) (.cel r)=some (row.map A.int):=zan (by rw [List.getElem?_append_left hrl];exact h.rowc)
  have hll:(((row.map A.int).length:Nat):Int)=row.length:=by simp
  generalize row.map A.int=v at li2 hll
  generalize (row.length:Int)=rl at hll
  simp [li2,hll]
 obtain ⟨ρ,Δ,e⟩:=e
 rw [e]
 simp only [zdn]
 exact zf6 (by simp only [Cl])
end M
namespace M
open PySem L2 V2
theorem zgQ (ns:List Int):∃ n:Nat,n ≤ 60∧∀ Ω,zbp [.scr ns, .int 3, .int 60] Ω=some (.ok (.int n),Ω):=by
 have c:=fun Ω=>zf2 ns 2 Ω (by decide) (by decide)
 have c0:=zjB ns 2
 generalize zew ns 2=x at c c0
 obtain ⟨n,hn⟩:=Int.eq_ofNat_of_zero_le (show 0 ≤ min 60 (max (max 0 ((ns.length:Int) - 3)) (x % 61)) by omega)
 refine ⟨n,by omega,fun Ω=>?_⟩
 simp [zbp,zc9,zaH,c]
 omega
theorem zhV (ns:List Int) (hns:ns.length ≤ 63) (k:Nat) (hk:k ≤ 60):∃ c:Int,0 ≤ c∧c < 2147483587∧∀ Ω,zbk [.scr ns, .int 3, .int k] Ω=some (.ok (.int c),Ω):=by
 have hm:(0:Int) < max 1 (max 0 ((ns.length:Int) - 3)):=by omega
 have hm2:max 1 (max 0 ((ns.length:Int) - 3)) ≤ 100:=by omega
 generalize hx:max 1 (max 0 ((ns.length:Int) - 3))=x at hm hm2
 have e0:=Int.emod_nonneg (k:Int) (show x ≠ 0 by omega)
 have e1:=Int.emod_lt_of_pos (k:Int) hm
 generalize hy:(k:Int) % x=y at e0 e1
 have c:=fun Ω=>zf2 ns (3 + y) Ω (by omega) (by omega)
 have c0:=zjB ns (3 + y)
 have c1:=zmN ns (3 + y)
 generalize zew ns (3 + y)=z at c c0 c1
 have m:=fun Ω=>ziv z k Ω c0 (by omega) (by omega) (by omega)
 refine ⟨mixI z k,mix0 _ _,mix1 _ _,fun Ω=>?_⟩
 have l1:(vCl zeM (zac (cI 0) (zac (vOp (gSub) (vCl gLen (zac (vVar 0) a0)) (vVar 1)) a0))) [some (.scr ns),some (.int 3),some (.int k),none] Ω=some (.ok (.int (max 0 ((ns.length:Int) - 3))),Ω):=by simp
 show trim Ω (outR (zbQ [some (.scr ns),some (.int 3),some (.int k),none] Ω))=_
 unfold zbQ
 rw [zav (ρ1:=[some (.scr ns),some (.int 3),some (.int k),some (.int (max 0 ((ns.length:Int) - 3)))]) (Ω':=Ω) (by
  unfold sAsg;rw [zdt l1];simp)]
 generalize hw:max 0 ((ns.length:Int) - 3)=w at hx
 simp [zaH,hx,hm,hy,c,m]
theorem zaz.oth {Ω:Sto} {s k m:Nat} {L:List (List Sg)} {cs:List Nat} (h:zaz Ω s k m L cs) {i:Nat} {c:Cell} (hi:i ≠ s) (hc:i ∉ cs):zaz (Ω.set i c) s k m L cs :=
 ⟨by rw [List.getElem?_set_ne hi];exact h.obj,h.len,fun j d S hj hS=>by
  have:i ≠ d:=fun z=>hc (z ▸ List.mem_of_getElem? hj)
  rw [List.getElem?_set_ne this]
  exact h.cel j d S hj hS,h.nd,h.ns⟩
theorem zaz.frame {Ω Ω':Sto} {s k m s':Nat} {L:List (List Sg)} {cs c1 c2:List Nat} (h:zaz Ω s k m L cs) (fr:FrS Ω Ω' s' c1 c2) (h1:s ≠ s') (h2:s ∉ c1) (h3:∀ c ∈ cs,c ≠ s'∧c ∉ c1):zaz Ω' s k m L cs :=
 ⟨by rw [fr.eq s h.lt h1 h2];exact h.obj,h.len,fun j d S hj hS=>by
  have hm:=h3 d (List.mem_of_getElem? hj)
  rw [fr.eq d (h.clt hj).1 hm.1 hm.2]
  exact h.cel j d S hj hS,h.nd,h.ns⟩
theorem zlZ {Ω:Sto} {s r s' r' k k':Nat} {row row':List Int} {L L':List (List Sg)} {cs cs':List Nat} {K:List A} (hk:2 ≤ k) (hk2:k ≤ 1000) (h:Sm Ω s r k row L cs) (h':Sm Ω s' r' k' row' L' cs') (hK:Ω[0]? = some (.lst K))
  (d : [0,s,r,s',r'].Nodup) (hs:s < 5) (hr:r < 5) (hs':s' < 5) (hr':r' < 5) (c5:∀ c ∈ cs,5 ≤ c) (c5':∀ c ∈ cs',5 ≤ c) (dis:∀ c ∈ cs,c ∉ cs') (hl5:5 ≤ Ω.length) (hn:row.length < 400) (x:Int) :
  ∃ Ω2 L2 cs2,zbg [.cel s, .int x] (Ω.set r (.lst ((row ++ [x]).map A.int)))=some (.ok .non,Ω2)∧Sm Ω2 s r k (row ++ [x]) L2 cs2∧Sm Ω2 s' r' k' row' L' cs'∧Ω2[0]? = some (.lst K)∧(∀ c ∈ cs2,5 ≤ c)∧(∀ c ∈ cs2,c ∉ cs')∧5 ≤ Ω2.length:=by
 simp only [List.nodup_cons,List.mem_cons,List.not_mem_nil,or_false,not_or,not_false_eq_true,List.nodup_nil,and_true] at d
 obtain ⟨⟨d1,d2,d3,d4⟩,⟨d5,d6,d7⟩,⟨d8,d9⟩,d10⟩:=d
 have no:∀ i,i < 5→i ∉ cs:=fun i hi z=>by have:=c5 i z;omega
 have no':∀ i,i < 5→i ∉ cs':=fun i hi z=>by have:=c5' i z;omega
 have hs1:=h.at_.oth (i:=r) (c := .lst ((row ++ [x]).map A.int)) (Ne.symm d5) (no r hr)
 have hs2:=h'.at_.oth (i:=r) (c := .lst ((row ++ [x]).map A.int)) d8 (no' r hr)
 obtain ⟨Ω2,cs2,q,hp,fr⟩:=zmy hk hk2 hs1 h.lv (by rw [h.fl];omega) x
 have hlen:(Ω.set r (.lst ((row ++ [x]).map A.int))).length=Ω.length:=by simp
 have eqs:∀ i,i < 5→i ≠ s→i ≠ r→Ω2[i]? = Ω[i]?:=fun i hi hne hne2=>by
  rw [fr.eq i (by rw [hlen];omega) hne (no i hi),List.getElem?_set_ne (Ne.symm hne2)]
 refine ⟨Ω2,layS k [x] L,cs2,q,⟨by simpa using hp,zgB hk h.lv (by simp),by rw [zeo hk,h.fl],?_,?_,by simp;omega⟩,⟨?_,h'.lv,h'.fl,?_,h'.sh,h'.few⟩,?_,fun c hc=>?_,fun c hc z=>?_,?_⟩
 ·rw [fr.eq r (by rw [hlen];omega) (Ne.symm d5) (no r hr),List.getElem?_set_self (by omega)]
 ·have e:(row ++ [x]).length=row.length + 1:=by simp
  rw [e]
  exact zgD h.sh (by simp)
 ·exact hs2.frame fr (Ne.symm d6) (no s' hs') fun c hc=>⟨fun z=>by have:=c5' c hc;omega,fun z=>dis c z hc⟩
 ·rw [eqs r' hr' (Ne.symm d7) (Ne.symm d9)];exact h'.rowc
 ·rw [eqs 0 (by omega) d1 d2];exact hK
 ·rcases fr.new c hc with w | w
  ·exact c5 c w
  ·rw [hlen] at w;omega
 ·rcases fr.new c hc with w | w
  ·exact dis c w z
  ·obtain ⟨j,hj,e⟩:=List.getElem_of_mem z
   have:=(h'.at_.clt (j:=j) (c:=c) (by rw [← e];exact List.getElem?_eq_getElem hj)).1
   rw [hlen] at w;omega
 ·have:=fr.le;rw [hlen] at this;omega
structure St73 (Ω:Sto) (k0 k1:Nat) (row0 row1:List Int) (L0 L1:List (List Sg)) (cs0 cs1:List Nat):Prop where
 kp:Ω[0]? = some (.lst [.int k0, .int k1])
 a:Sm Ω 1 3 k0 row0 L0 cs0
 b:Sm Ω 2 4 k1 row1 L1 cs1
 ca:∀ c ∈ cs0,5 ≤ c
 cb:∀ c ∈ cs1,5 ≤ c
 dis:∀ c ∈ cs0,c ∉ cs1
 len:5 ≤ Ω.length
abbrev E73 (ns:List Int) (so fi:Int) (y6 y7 y8 y9 y10 y11:Option A):Ev:=[some (.scr ns),some (.int so),some (.int fi),some (.cel 0),some (.lst [.cel 1, .cel 2]),some (.lst [.cel 3, .cel 4]),y6,y7,y8,y9,y10,y11]
theorem zjc (ns:List Int) (so fi x:Int) (y6 y7 y8 y11:Option A) (s r:Nat) (at_:Int) (hat1:atI [A.cel 1, .cel 2] at_=some (.cel s)) (hat2:atI [A.cel 3, .cel 4] at_=some (.cel r)) (row:List Int) (Ω Ω2:Sto) (k m:Nat) (cs:List Nat) (hrow:Ω[r]? = some (.lst (row.map A.int))) (hz:row.length < 400)
  (ob:(Ω.set r (.lst ((row ++ [x]).map A.int)))[s]? = some (.ins "Sums" (fsS k m cs))) (q:zbg [.cel s, .int x] (Ω.set r (.lst ((row ++ [x]).map A.int)))=some (.ok .non,Ω2)) :
  zcf (E73 ns so fi y6 y7 y8 (some (.int x)) (some (.int at_)) y11) Ω=some (.nx,E73 ns so fi y6 y7 y8 (some (.int x)) (some (.int at_)) y11,Ω2):=by
 have il:isL Ω (.cel r):=zdC (zan hrow)
 have cl:zcW Ω (.cel r)=some (r,row.map A.int):=zbU hrow
 have hz2:(row.map A.int).length < sizeLine:=by rw [sizeLine_eq];simp;omega
 have er:(row ++ [x]).map A.int=row.map A.int ++ [A.int x]:=by simp
 rw [er] at q ob
 unfold zcf
 rw [zav (ρ1:=E73 ns so fi y6 y7 y8 (some (.int x)) (some (.int at_)) y11) (Ω':=Ω.set r (.lst (row.map A.int ++ [A.int x]))) (by
  generalize row.map A.int=u at cl hz2
  simp [E73,hat2,il,cl,hz2])]
 have lk:(fsS k m cs).lookup ("put" : Str)=none:=rfl
 generalize Ω.set r (.lst (row.map A.int ++ [A.int x]))=Ω1 at q ob
 have call:(zdL "put" [("Sums",zcJ 2 [] zbg)] (vOp gIx (vVar 4) (vVar 10)) (zac (vVar 9) a0)) (E73 ns so fi y6 y7 y8 (some (.int x)) (some (.int at_)) y11) Ω1=some (.ok .non,Ω2):=by
  simp [E73,zcJ,hat1,ob,lk,q,List.lookup]
 unfold sExp
 rw [zdt call]
theorem zmL {Ω:Sto} {k0 k1:Nat} {row0 row1:List Int} {L0 L1:List (List Sg)} {cs0 cs1:List Nat} (h0:2 ≤ k0) (h0':k0 ≤ 1000) (h1:2 ≤ k1) (h1':k1 ≤ 1000) (h:St73 Ω k0 k1 row0 row1 L0 L1 cs0 cs1) (hn0:row0.length < 400) (hn1:row1.length < 400) (ns:List Int) (so fi c:Int) (hc:0 ≤ c) (hc1:c < 2147483587) (j:Nat) (hj:j ≤ 10) (y6 y9 y10 y11:Option A) :
  ∃ Ω' r0 r1 L0' L1' c0' c1' z9 z10,St73 Ω' k0 k1 r0 r1 L0' L1' c0' c1'∧r0.length=row0.length + 1∧r1.length ≤ row1.length + 1 ∧
   za2 (E73 ns so fi y6 (some (.int c)) (some (.int j)) y9 y10 y11) Ω=some (.nx,E73 ns so fi y6 (some (.int c)) (some (.int j)) z9 z10 y11,Ω'):=by
 have m:=fun Ω=>ziv c (1 + (j:Int)) Ω hc (by omega) (by omega) (by omega)
 have m0:=mix0 c (1 + (j:Int))
 have m1:=mix1 c (1 + (j:Int))
 generalize mixI c (1 + (j:Int))=d at m m0 m1
 obtain ⟨x,hx⟩:=zhD d so m0 (by omega)
 obtain ⟨Ω1,L0',c0',q0,a0',b0',k0',ca',dis',l5⟩:=zlZ h0 h0' h.a h.b h.kp (by decide) (by decide) (by decide) (by decide) (by decide) h.ca h.cb h.dis h.len hn0 x
 have ob0:=(h.a.at_.oth (i:=3) (c := .lst ((row0 ++ [x]).map A.int)) (by decide) (fun z=>by have:=h.ca 3 z;omega)).obj
 have t0:=zjc ns so fi x y6 (some (.int c)) (some (.int j)) y11 1 3 0 rfl rfl row0 Ω Ω1 k0 row0.length cs0 h.a.rowc hn0 ob0 q0
 have li:zaj Ω (.cel 3)=some (row0.map A.int):=zan h.a.rowc
 have hll:(((row0.map A.int).length:Nat):Int)=row0.length:=by simp
 have hstart:(sAsg (vCl (zaH 2 zah) (zac (vCl (zaH 2 zaL) (zac (vVar 7) (zac (vOp (gAdd false) (cI 1) (vVar 8)) a0))) (zac (vVar 1) a0))) (gN 9)) (E73 ns so fi y6 (some (.int c)) (some (.int j)) y9 y10 y11) Ω=some (.nx,E73 ns so fi y6 (some (.int c)) (some (.int j)) (some (.int x)) y10 y11,Ω):=by
  simp [E73,zaH,m,hx]
 have a3:atI [A.cel 3, .cel 4] 0=some (.cel 3):=rfl
 by_cases c3:row0.length % 3=0
 ·obtain ⟨Ω2,L1',c1',q1,b1,a1,kk,cb',dis2,l52⟩:=zlZ h1 h1' b0' a0' k0' (by decide) (by decide) (by decide) (by decide) (by decide) h.cb ca' (fun c hc z=>dis' c z hc) l5 hn1 x
  have ob1:=(b0'.at_.oth (i:=4) (c := .lst ((row1 ++ [x]).map A.int)) (by decide) (fun z=>by have:=h.cb 4 z;omega)).obj
  have t1:=zjc ns so fi x y6 (some (.int c)) (some (.int j)) y11 2 4 1 rfl rfl row1 Ω1 Ω2 k1 row1.length cs1 b0'.rowc hn1 ob1 q1
  refine ⟨Ω2,row0 ++ [x],row1 ++ [x],L0',L1',c0',c1',some (.int x),some (.int 1),⟨kk,a1,b1,ca',cb',fun c hc z=>dis2 c z hc,l52⟩,by simp,by simp,?_⟩
  unfold za2
  rw [zav hstart]
  have c3':(row0.length:Int) % 3=0:=by omega
  rw [forO (S:=zb9 0 2) (Ω':=Ω) (rngO (j:=2) (by
   generalize row0.map A.int=u at li hll
   generalize (row0.length:Int)=rl at hll c3'
   simp [E73,a3,li,hll,c3']) (by unfold zbH;omega))]
  show fFor _ _ _ [A.int (0 + ((0:Nat):Int)),A.int (0 + ((1:Nat):Int))] _ _=_
  rw [zbq (Ω0:=Ω) (ρ0:=E73 ns so fi y6 (some (.int c)) (some (.int j)) (some (.int x)) (some (.int 0)) y11) trivial (by simp [E73]) t0]
  rw [zbq (Ω0:=Ω1) (ρ0:=E73 ns so fi y6 (some (.int c)) (some (.int j)) (some (.int x)) (some (.int 1)) y11) trivial (by simp [E73]) t1]
  simp [fFor]
 ·refine ⟨Ω1,row0 ++ [x],row1,L0',L1,c0',cs1,some (.int x),some (.int 0),⟨k0',a0',b0',ca',h.cb,dis',l5⟩,by simp,by omega,?_⟩
  unfold za2
  rw [zav hstart]
  have c3':¬ (row0.length:Int) % 3=0:=by omega
  rw [forO (S:=zb9 0 1) (Ω':=Ω) (rngO (j:=1) (by
   generalize row0.map A.int=u at li hll
   generalize (row0.length:Int)=rl at hll c3'
   simp [E73,a3,li,hll,c3']) (by unfold zbH;omega))]
  show fFor _ _ _ [A.int (0 + ((0:Nat):Int))] _ _=_
  rw [zbq (Ω0:=Ω) (ρ0:=E73 ns so fi y6 (some (.int c)) (some (.int j)) (some (.int x)) (some (.int 0)) y11) trivial (by simp [E73]) t0]
  simp [fFor]
end M
namespace M
open PySem L2 V2
theorem zj9 {Ω:Sto} {k0 k1:Nat} {row0 row1:List Int} {L0 L1:List (List Sg)} {cs0 cs1:List Nat} (h0:2 ≤ k0) (h0':k0 ≤ 1000) (h1:2 ≤ k1) (h1':k1 ≤ 1000) (h:St73 Ω k0 k1 row0 row1 L0 L1 cs0 cs1) (n:Nat) (hn:n ≤ 4) (hn0:row0.length + 4 ≤ 400) (hn1:row1.length + 4 ≤ 400) (ns:List Int) (so fi c:Int) (hc:0 ≤ c) (hc1:c < 2147483587) (y6 y8 y9 y10 y11:Option A) :
  ∃ Ω' r0 r1 L0' L1' c0' c1' z8 z9 z10,St73 Ω' k0 k1 r0 r1 L0' L1' c0' c1'∧r0.length ≤ row0.length + n∧r1.length ≤ row1.length + n ∧
   fFor (fun _=>True) (gN 8) za2 ((List.range n).map fun (i:Nat)=>A.int (0 + (i:Int))) (E73 ns so fi y6 (some (.int c)) y8 y9 y10 y11) Ω=some (.nx,E73 ns so fi y6 (some (.int c)) z8 z9 z10 y11,Ω'):=by
 obtain ⟨ρ1,Ω1,q,r0,r1,L0',L1',c0',c1',z8,z9,z10,rfl,h',hl0,hl1⟩:=zdh (ok:=fun _=>True) (g:=gN 8) (b:=za2)
  (fun i ρ Ω'=>∃ r0 r1 L0' L1' c0' c1' z8 z9 z10,ρ=E73 ns so fi y6 (some (.int c)) z8 z9 z10 y11∧St73 Ω' k0 k1 r0 r1 L0' L1' c0' c1'∧r0.length ≤ row0.length + i∧r1.length ≤ row1.length + i) (fun _ _ _ _=>trivial)
  ((List.range n).map fun (i:Nat)=>A.int (0 + (i:Int))) 0 (E73 ns so fi y6 (some (.int c)) y8 y9 y10 y11) Ω ⟨row0,row1,L0,L1,cs0,cs1,y8,y9,y10,rfl,h,by omega,by omega⟩
  (by
   rintro i a ρ Ω' ha ⟨r0,r1,L0',L1',c0',c1',z8,z9,z10,rfl,h',hl0,hl1⟩
   have hi:i < n:=by simpa using (List.getElem?_eq_some_iff.mp ha).1
   have ex:a = .int (i:Int):=by
    rw [List.getElem?_map,List.getElem?_range hi] at ha
    simpa using ha.symm
   subst ex
   rw [Nat.zero_add] at hl0 hl1 ⊢
   obtain ⟨Ω2,s0,s1,M0,M1,d0,d1,w9,w10,h2,hs0,hs1,q2⟩:=zmL h0 h0' h1 h1' h' (by omega) (by omega) ns so fi c hc hc1 i (by omega) y6 z9 z10 y11
   exact ⟨E73 ns so fi y6 (some (.int c)) (some (.int i)) z9 z10 y11,Ω',_,_,by simp [E73], .inl q2,s0,s1,M0,M1,d0,d1,some (.int i),w9,w10,rfl,h2,by omega,by omega⟩)
 simp only [List.length_map,List.length_range,Nat.zero_add] at hl0 hl1
 exact ⟨Ω1,r0,r1,L0',L1',c0',c1',z8,z9,z10,h',hl0,hl1,q⟩
theorem zjP {Ω:Sto} {k0 k1:Nat} {row0 row1:List Int} {L0 L1:List (List Sg)} {cs0 cs1:List Nat} (h0:2 ≤ k0) (h0':k0 ≤ 1000) (h1:2 ≤ k1) (h1':k1 ≤ 1000) (h:St73 Ω k0 k1 row0 row1 L0 L1 cs0 cs1) (hn0:row0.length + 4 ≤ 400) (hn1:row1.length + 4 ≤ 400) (i:Nat) (hi:i ≤ 60) (ns:List Int) (hns:ns.length ≤ 63) (so fi:Int) (y7 y8 y9 y10 y11:Option A) :
  ∃ Ω' r0 r1 L0' L1' c0' c1' z7 z8 z9 z10,St73 Ω' k0 k1 r0 r1 L0' L1' c0' c1'∧r0.length ≤ row0.length + 4∧r1.length ≤ row1.length + 4 ∧
   zbO (E73 ns so fi (some (.int i)) y7 y8 y9 y10 y11) Ω=some (.nx,E73 ns so fi (some (.int i)) z7 z8 z9 z10 y11,Ω'):=by
 obtain ⟨c,c0,c1,st⟩:=zhV ns hns i hi
 obtain ⟨n,hn'⟩:=Int.eq_ofNat_of_zero_le (show 0 ≤ 1 + c % 4 by omega)
 obtain ⟨Ω1,r0,r1,L0',L1',c0',c1',z8,z9,z10,hS,hl0,hl1,q⟩:=zj9 h0 h0' h1 h1' h n (by omega) hn0 hn1 ns so fi c c0 c1 (some (.int i)) y8 y9 y10 y11
 refine ⟨Ω1,r0,r1,L0',L1',c0',c1',some (.int c),z8,z9,z10,hS,by omega,by omega,?_⟩
 have li:zaj Ω1 (.cel 3)=some (r0.map A.int):=zan hS.a.rowc
 have lk:zaj Ω1 (.cel 0)=some [.int k0, .int k1]:=zan hS.kp
 have hll:(((r0.map A.int).length:Nat):Int)=r0.length:=by simp
 have sz:=zhb h0 h0' r0.length hS.a.few Ω1
 have ak:=zez hS.a
 generalize (lenZ (zae (layN k0 r0.length))).map A.int=u at sz ak
 have a1:atI [A.cel 3, .cel 4] 0=some (.cel 3):=rfl
 have a2:atI [A.cel 1, .cel 2] 0=some (.cel 1):=rfl
 have a3:atI [A.int k0, .int k1] 0=some (.int k0):=rfl
 unfold zbO
 rw [zav (ρ1:=E73 ns so fi (some (.int i)) (some (.int c)) y8 y9 y10 y11) (Ω':=Ω) (by simp [E73,zaH,st])]
 rw [zav (ρ1:=E73 ns so fi (some (.int i)) (some (.int c)) z8 z9 z10 y11) (Ω':=Ω1) (by
  rw [forO (S:=zb9 0 n) (Ω':=Ω) (rngO (j:=(n:Int)) (by simp [E73];omega) (by unfold zbH;omega))]
  exact q)]
 generalize r0.map A.int=v at li hll
 generalize (r0.length:Int)=rl at hll sz
 have lenv:(vCl gLen (zac (vOp gIx (vVar 5) (cI 0)) a0)) (E73 ns so fi (some (.int i)) (some (.int c)) z8 z9 z10 y11) Ω1=some (.ok (.int rl),Ω1):=by simp [E73,a1,li,hll]
 have szv:(vCl (zaH 2 zaR) (zac (vOp gIx (vVar 3) (cI 0)) (zac (vCl gLen (zac (vOp gIx (vVar 5) (cI 0)) a0)) a0))) (E73 ns so fi (some (.int i)) (some (.int c)) z8 z9 z10 y11) Ω1=some (.ok (.lst u),Ω1):=by
  generalize (vCl gLen (zac (vOp gIx (vVar 5) (cI 0)) a0))=gl at lenv
  simp [lenv,E73,lk,a3,zaH,sz]
 generalize (vCl (zaH 2 zaR) (zac (vOp gIx (vVar 3) (cI 0)) (zac (vCl gLen (zac (vOp gIx (vVar 5) (cI 0)) a0)) a0)))=gs at szv
 have akv:(vCl (zaH 3 zar) (zac (vOp gIx (vVar 4) (cI 0)) (zac (vOp gIx (vVar 5) (cI 0)) (zac gs a0)))) (E73 ns so fi (some (.int i)) (some (.int c)) z8 z9 z10 y11) Ω1=some (.ok (.bl true),Ω1):=by
  simp [szv,E73,a1,a2,zaH,ak]
 generalize (vCl (zaH 3 zar) (zac (vOp gIx (vVar 4) (cI 0)) (zac (vOp gIx (vVar 5) (cI 0)) (zac gs a0))))=ga at akv
 by_cases c5:(i:Int) % 5=fi % 5
 ·simp [akv,E73,c5]
 ·simp [akv,E73,c5]
theorem zi1 {Ω:Sto} {s r k:Nat} {row:List Int} {L:List (List Sg)} {cs:List Nat} (hk:2 ≤ k) (hk2:k ≤ 1000) (h:Sm Ω s r k row L cs) (ks:List A) (hks:Ω[0]? = some (.lst ks)) (at_:Int) (hk3:atI ks at_=some (.int k)) (hat1:atI [A.cel 1, .cel 2] at_=some (.cel s)) (hat2:atI [A.cel 3, .cel 4] at_=some (.cel r)) (ns:List Int) (so fi:Int) (y6 y7 y8 y9 y11:Option A) :
  ∃ z11,zcd (E73 ns so fi y6 y7 y8 y9 (some (.int at_)) y11) Ω=some (.nx,E73 ns so fi y6 y7 y8 y9 (some (.int at_)) z11,Ω):=by
 have li:zaj Ω (.cel r)=some (row.map A.int):=zan h.rowc
 have lk:zaj Ω (.cel 0)=some ks:=zan hks
 have hll:(((row.map A.int).length:Nat):Int)=row.length:=by simp
 have sz:=zhb hk hk2 row.length h.few Ω
 have ak:=zez h
 generalize (lenZ (zae (layN k row.length))).map A.int=u at sz ak
 refine ⟨some (.lst u),?_⟩
 generalize row.map A.int=v at li hll
 generalize (row.length:Int)=rl at hll sz
 have lenv:(vCl gLen (zac (vOp gIx (vVar 5) (vVar 10)) a0)) (E73 ns so fi y6 y7 y8 y9 (some (.int at_)) y11) Ω=some (.ok (.int rl),Ω):=by simp [E73,hat2,li,hll]
 unfold zcd
 generalize (vCl gLen (zac (vOp gIx (vVar 5) (vVar 10)) a0))=gl at lenv
 rw [zav (ρ1:=E73 ns so fi y6 y7 y8 y9 (some (.int at_)) (some (.lst u))) (Ω':=Ω) (by
  simp [lenv,E73,lk,hk3,zaH,sz])]
 have akv:(vCl (zaH 3 zar) (zac (vOp gIx (vVar 4) (vVar 10)) (zac (vOp gIx (vVar 5) (vVar 10)) (zac (vVar 11) a0)))) (E73 ns so fi y6 y7 y8 y9 (some (.int at_)) (some (.lst u))) Ω=some (.ok (.bl true),Ω):=by
  simp [E73,hat1,hat2,zaH,ak]
 generalize (vCl (zaH 3 zar) (zac (vOp gIx (vVar 4) (vVar 10)) (zac (vOp gIx (vVar 5) (vVar 10)) (zac (vVar 11) a0))))=ga at akv
 simp [akv]
theorem zkp (ns:List Int) (hns:ns.length ≤ 63):∃ W,ze5 [.scr ns] []=some (.ok (.bl true),W):=by
 have c0:=fun Ω=>zf2 ns 0 Ω (by decide) (by decide)
 have c1:=fun Ω=>zf2 ns 1 Ω (by decide) (by decide)
 have f0:=zjB ns 1
 generalize zew ns 0=x0 at c0
 generalize zew ns 1=fi at c1 f0
 have d8:CDiv fi 8:=⟨by decide,by decide⟩
 have d64:CDiv fi 64:=⟨by decide,by decide⟩
 have s2:(2:Nat) ≤ sizeLine:=by decide
 obtain ⟨k1,hk1⟩:=Int.eq_ofNat_of_zero_le (show 0 ≤ 2 + fi / 64 % 8 by omega)
 obtain ⟨k0,hk,hk2,hkv⟩ : ∃ k:Nat,2 ≤ k∧k ≤ 1000∧sIf (zaW (vOp gEq (vOp (gMod) (vOp (gDiv) (vVar 2) (cI 8)) (cI 8)) (cI 0))) (sAsg (cI 1000) (zhq (vVar 3) (cI 0))) sNx [some (.scr ns),some (.int (x0 % 5)),some (.int fi),some (.cel 0),none,none,none,none,none,none,none,none] [.lst [.int (2 + fi % 8), .int k1]]=some (.nx,[some (.scr ns),some (.int (x0 % 5)),some (.int fi),some (.cel 0),none,none,none,none,none,none,none,none],[.lst [.int k, .int k1]]):=by
  by_cases c:fi / 8 % 8=0
  ·refine ⟨1000,by decide,by decide,?_⟩
   have cl:zcW [Cell.lst [A.int (2 + fi % 8), .int k1]] (.cel 0)=some (0,[A.int (2 + fi % 8), .int k1]):=zbU rfl
   have ix:ixN 2 0=some 0:=rfl
   simp [d8,c,cl,ix]
  ·obtain ⟨n,hn⟩:=Int.eq_ofNat_of_zero_le (show 0 ≤ 2 + fi % 8 by omega)
   exact ⟨n,by omega,by omega,by simp [d8,c,hn]⟩
 obtain ⟨n,hn,st⟩:=zgQ ns
 have start:St73 [.lst [.int k0, .int k1], .ins "Sums" (fsS k0 0 []), .ins "Sums" (fsS k1 0 []), .lst [], .lst []] k0 k1 [] [] [] [] [] [] :=
  ⟨rfl,⟨⟨rfl,rfl,fun j c S h=>by simp at h,List.nodup_nil,by simp⟩,trivial,rfl,rfl,rfl,by simp⟩,⟨⟨rfl,rfl,fun j c S h=>by simp at h,List.nodup_nil,by simp⟩,trivial,rfl,rfl,rfl,by simp⟩,by simp,by simp,by simp,by simp⟩
 have hk1a:2 ≤ k1:=by omega
 have hk1b:k1 ≤ 1000:=by omega
 generalize hso:x0 % 5=so at hkv
 generalize hO:([.lst [.int k0, .int k1], .ins "Sums" (fsS k0 0 []), .ins "Sums" (fsS k1 0 []), .lst [], .lst []] : Sto)=Ω0 at start
 obtain ⟨ρ1,Ω1,q,r0,r1,L0,L1,cs0,cs1,z6,z7,z8,z9,z10,rfl,h,hl0,hl1⟩:=zdh (ok:=fun _=>True) (g:=gN 6) (b:=zbO)
  (fun i ρ Ω'=>∃ r0 r1 L0' L1' c0' c1' z6 z7 z8 z9 z10,ρ=E73 ns so fi z6 z7 z8 z9 z10 none∧St73 Ω' k0 k1 r0 r1 L0' L1' c0' c1'∧r0.length ≤ 4 * i∧r1.length ≤ 4 * i) (fun _ _ _ _=>trivial)
  ((List.range n).map fun (i:Nat)=>A.int (0 + (i:Int))) 0 (E73 ns so fi none none none none none none) Ω0 ⟨[],[],[],[],[],[],none,none,none,none,none,rfl,start,by simp,by simp⟩
  (by
   rintro i a ρ Ω' ha ⟨r0,r1,L0',L1',c0',c1',z6,z7,z8,z9,z10,rfl,h',hl0,hl1⟩
   have hi:i < n:=by simpa using (List.getElem?_eq_some_iff.mp ha).1
   have ex:a = .int (i:Int):=by
    rw [List.getElem?_map,List.getElem?_range hi] at ha
    simpa using ha.symm
   subst ex
   rw [Nat.zero_add] at hl0 hl1 ⊢
   obtain ⟨Ω2,s0,s1,M0,M1,d0,d1,w7,w8,w9,w10,h2,hs0,hs1,q2⟩:=zjP hk hk2 hk1a hk1b h' (by omega) (by omega) i (by omega) ns hns so fi z7 z8 z9 z10 none
   exact ⟨E73 ns so fi (some (.int i)) z7 z8 z9 z10 none,Ω',_,_,by simp [E73], .inl q2,s0,s1,M0,M1,d0,d1,some (.int i),w7,w8,w9,w10,rfl,h2,by omega,by omega⟩)
 obtain ⟨w11,t0⟩:=zi1 hk hk2 h.a _ h.kp 0 rfl rfl rfl ns so fi z6 z7 z8 z9 none
 obtain ⟨v11,t1⟩:=zi1 hk1a hk1b h.b _ h.kp 1 rfl rfl rfl ns so fi z6 z7 z8 z9 w11
 show ∃ W,trim [] (outR (zcQ [some (.scr ns),none,none,none,none,none,none,none,none,none,none,none] []))=some (.ok (.bl true),W)
 suffices hfin:zcQ [some (.scr ns),none,none,none,none,none,none,none,none,none,none,none] []=some (.ret (.bl true),E73 ns so fi z6 z7 z8 z9 (some (.int 1)) v11,Ω1) by
  rw [hfin]
  simp only [zdn]
  exact ⟨[],by simp [trim,Cl]⟩
 unfold zcQ
 rw [zav (ρ1:=[some (.scr ns),some (.int so),none,none,none,none,none,none,none,none,none,none]) (Ω':=[]) (by simp [zaH,c0,hso])]
 rw [zav (ρ1:=[some (.scr ns),some (.int so),some (.int fi),none,none,none,none,none,none,none,none,none]) (Ω':=[]) (by simp [zaH,c1])]
 rw [zav (ρ1:=[some (.scr ns),some (.int so),some (.int fi),some (.cel 0),none,none,none,none,none,none,none,none]) (Ω':=[.lst [.int (2 + fi % 8), .int k1]]) (by simp [d64,hk1,mkL,s2])]
 rw [zav hkv]
 have mk0:=zje k0 [.lst [.int k0, .int k1]]
 have mk1:=zje k1 [.lst [.int k0, .int k1], .ins "Sums" (fsS k0 0 [])]
 have lk0:zaj [.lst [.int k0, .int k1]] (.cel 0)=some [.int k0, .int k1]:=rfl
 have lk1:zaj [.lst [.int k0, .int k1], .ins "Sums" (fsS k0 0 [])] (.cel 0)=some [.int k0, .int k1]:=rfl
 have a0':atI [A.int k0, .int k1] 0=some (.int k0):=rfl
 have a1':atI [A.int k0, .int k1] 1=some (.int k1):=rfl
 rw [zav (ρ1:=[some (.scr ns),some (.int so),some (.int fi),some (.cel 0),some (.lst [.cel 1, .cel 2]),none,none,none,none,none,none,none]) (Ω':=[.lst [.int k0, .int k1], .ins "Sums" (fsS k0 0 []), .ins "Sums" (fsS k1 0 [])]) (by
  generalize hgm:zfq "Sums" 2 zay=gm at mk0 mk1
  simp at mk0 mk1
  simp [lk0,lk1,a0',a1',mk0,mk1,s2,mkL])]
 rw [zav (ρ1:=E73 ns so fi none none none none none none) (Ω':=Ω0) (by rw [← hO];simp [E73,mkL,s2])]
 rw [zav (ρ1:=E73 ns so fi z6 z7 z8 z9 z10 none) (Ω':=Ω1) (by
  rw [forO (S:=zb9 0 n) (Ω':=Ω0) (rngO (j:=(n:Int)) (by simp [E73,zaH,st]) (by unfold zbH;omega))]
  exact q)]
 rw [zav (ρ1:=E73 ns so fi z6 z7 z8 z9 (some (.int 1)) v11) (Ω':=Ω1) (by
  rw [forO (S:=zb9 0 2) (Ω':=Ω1) (rngO (j:=2) (by simp) (by unfold zbH;omega))]
  show fFor _ _ _ [A.int (0 + ((0:Nat):Int)),A.int (0 + ((1:Nat):Int))] _ _=_
  rw [zbq (Ω0:=Ω1) (ρ0:=E73 ns so fi z6 z7 z8 z9 (some (.int 0)) none) trivial (by simp [E73]) t0]
  rw [zbq (Ω0:=Ω1) (ρ0:=E73 ns so fi z6 z7 z8 z9 (some (.int 1)) w11) trivial (by simp [E73]) t1]
  simp [fFor])]
 simp
end M
namespace K73
open PySem L2 V2 PyProof.Rows M
def top (i:Nat):Stmt:=PySem.Challenge.pw_rankpouch_k73_blocks_of_sums.main.body.getD i (.Pass ⟨0,0,0,0⟩)
abbrev zbz:Stmt:=top 3
abbrev zbx:Stmt:=top 5
abbrev zbj:Stmt:=top 6
abbrev zaU:Stmt:=top 7
abbrev za1:Stmt:=top 8
abbrev zbd:Stmt:=top 9
abbrev za3:Stmt:=top 10
abbrev zaO:Stmt:=top 11
abbrev zas:Stmt:=inClass (top 2) 0
abbrev zby:Stmt:=inClass (top 2) 1
abbrev zbv:Stmt:=inClass (top 2) 2
abbrev zaS:Stmt:=inClass (top 2) 3
abbrev zep:Stmt:=top 12
structure Blt (mg:Str→Option Value):Prop where
 bool:mg "bool" = none
 int:mg "int" = none
 isinstance:mg "isinstance" = none
 len:mg "len" = none
 list:mg "list" = none
 max:mg "max" = none
 min:mg "min" = none
 range:mg "range" = none
 reversed:mg "reversed" = none
 sum:mg "sum" = none
 tuple:mg "tuple" = none
 zip:mg "zip" = none
section
variable {P:Program} {w:World} {K:PySem.W.Frag} {mg:Str→Option Value} {base:Heap}
theorem zb8:zaw ["self", "keep"] ["self", "keep"] (zab zas):=⟨rfl,rfl,rfl,by decide +kernel,rfl,by decide +kernel,by decide +kernel⟩
theorem zb6 (B:Blt mg) (A_keep:zaV K ["Sums"] "keep") (A_levels:zaV K ["Sums"] "levels") (A_many:zaV K ["Sums"] "many") (f:Addr) (cdv:Value) (A:Around) (outer:List Env) (s:Shared) (H:Hp) (E:XK) (hr:Room 0 (A.deeper (envOfC "Sums.__init__" (zab zas) s.heap.objs.size f cdv))) :
  VSs (cxX P w K mg base ["self", "keep"] "Sums.__init__" (zab zas) f cdv A outer s H E) (fun _=>E) (zal zas) zaP:=by
 exact (zaf (zf7 (vv 0) (vv 1) A_keep)
  (zaf (zf7 (vv 0) zad A_many)
  (zap (zkd (zf7 (vv 0) (zb7 true zag) A_levels)))))
theorem zdb (B:Blt mg) (A_keep:zaV K ["Sums"] "keep") (A_levels:zaV K ["Sums"] "levels") (A_many:zaV K ["Sums"] "many") {cls:Str} (h:HasI K mg cls "Sums.__init__" zas):zgg P w K mg base cls 1 2 zay:=zgg.of h zb8 (fun _ _ _ _ _ _ us hl=>us2 us hl (fun _ _=>rfl)) (zb6 B A_keep A_levels A_many)
theorem zgx (B:Blt mg) (A_keep:zaV K ["Sums"] "keep") (A_levels:zaV K ["Sums"] "levels") (A_many:zaV K ["Sums"] "many") {rk:Str} (h:HasB K mg rk "__init__" "Sums.__init__" zas):ziu P w K mg base rk "__init__" 1 2 zay:=ziu.of h zb8 (fun _ _ _ _ _ _ us hl=>us2 us hl (fun _ _=>rfl)) (zb6 B A_keep A_levels A_many)
theorem zbR:zaw ["self", "told", "some"] ["self"] (zab zaS):=⟨rfl,rfl,rfl,by decide +kernel,rfl,by decide +kernel,by decide +kernel⟩
theorem zer (B:Blt mg) (A_levels:zaV K ["Sums"] "levels") {cls:Str} (h:HasM K mg cls "blocks" "Sums.blocks" zaS):zcx P w K mg base cls "blocks" 1 1 [] zaK:=by
 refine zcx.of h zbR (fun _ _ _ _ _ _ us hl=>us1 us hl (fun _=>rfl)) (fun f cdv A outer s H E hr=>?_)
 exact (zaf (zaM (i:=1) zbR.nd rfl (Or.inl rfl) (zb7 true zag))
  (zaf (zic (i:=0) (f := "levels") (zdx zak.passes rfl (zlw rfl B.reversed (zdW (vv 0) A_levels)) (zb1 (i:=2) zbR.nd rfl (Or.inl rfl))
   (zap (zb5 (zfx PySem.F.plainAttrs_list PySem.F.slot_list_extend PySem.F.type_list_extend zhE ziw (vv 1) (zaa (vv 2) zag))))))
  (zap (za8 (vv 1)))))
theorem zfA:zaw ["one", "other"] ["one", "other"] (zab zbz):=⟨rfl,rfl,rfl,by decide +kernel,rfl,by decide +kernel,by decide +kernel⟩
theorem zgc (B:Blt mg) (h:HasFn K mg "together" zbz):DefV P w K mg base "together" 1 ["one", "other"] zbw:=by
 refine DefV.of h zfA (fun _ _ _ _ _ _ us hl=>us2 us hl (fun _ _=>rfl)) (fun f cdv A outer s H E hr=>?_)
 exact (zap (za8 (zf0 (zaa (zao (zbu false) (zba (vv 0) zad (fun _ _=>rfl)) (zba (vv 1) zad (fun _ _=>rfl))) (zaa (zao (zbu false) (zba (vv 0) zad (fun _ _=>rfl)) (zba (vv 1) zad (fun _ _=>rfl))) (zaa (zat (ziX rfl) rfl B.min boot_min (zaa (zba (vv 0) zad (fun _ _=>rfl)) (zaa (zba (vv 1) zad (fun _ _=>rfl)) zag))) (zaa (zat (ze9 rfl) rfl B.max boot_max (zaa (zba (vv 0) zad (fun _ _=>rfl)) (zaa (zba (vv 1) zad (fun _ _=>rfl)) zag))) zag)))))))
theorem zdM:zaw ["_law_cell_here", "_law_k", "_law_first"] ["_law_cell_here", "_law_k"] (zab zbx):=⟨rfl,rfl,rfl,by decide +kernel,rfl,by decide +kernel,by decide +kernel⟩
theorem zgm (B:Blt mg) (h:HasFn K mg "_law_mix" zbx):DefV P w K mg base "_law_mix" 1 ["_law_cell_here", "_law_k"] zaL:=by
 refine DefV.of h zdM (fun _ _ _ _ _ _ us hl=>us2 us hl (fun _ _=>rfl)) (fun f cdv A outer s H E hr=>?_)
 exact (zaf (zaM (i:=2) zdM.nd rfl (Or.inl rfl) (zao zca (zao zdR (zao (zbu false) (vv 0) zad) (zao (zbu false) zad (zao zdR zad (vv 1)))) zad))
  (zap (za8 (zao zca (zao (zbu false) (zao (zbu false) (zao zdR (zao ziG (vv 2) zad) zad) (zao zdR (vv 2) (zao (zbu false) (zao zdR (vv 1) (vv 1)) zad))) (vv 1)) zad))))
theorem zdQ:zaw ["_law_cell_here", "_law_sort"] ["_law_cell_here", "_law_sort"] (zab zaU):=⟨rfl,rfl,rfl,by decide +kernel,rfl,by decide +kernel,by decide +kernel⟩
theorem zek (B:Blt mg) (h:HasFn K mg "_law_number" zaU):DefV P w K mg base "_law_number" 1 ["_law_cell_here", "_law_sort"] zah:=by
 refine DefV.of h zdQ (fun _ _ _ _ _ _ us hl=>us2 us hl (fun _ _=>rfl)) (fun f cdv A outer s H E hr=>?_)
 exact (zaf (zcY (zbX (o_eq hr.units) (vv 1) zad (zbC _))
   (zap (za8 (zao zca (vv 0) zad)))
   zbh)
  (zaf (zcY (zbX (o_eq hr.units) (vv 1) zad (zbC _))
   (zap (za8 (zao zdS (zao zca (vv 0) zad) zad)))
   zbh)
  (zaf (zcY (zbX (o_eq hr.units) (vv 1) zad (zbC _))
   (zap (za8 (zao zdS (zao zca (zao zdR (zao zdR (vv 0) (vv 0)) zad) (zao (zbu false) (zao zdR zad (zao zgj zad zad)) zad)) (zao zgj zad zad))))
   zbh)
  (zaf (zcY (zbX (o_eq hr.units) (vv 1) zad (zbC _))
   (zap (za8 (zba (zb7 false (zaa (zao (zbu false) (zao zgj zad zad) (vv 0)) (zaa (zao zdS (zao zdS zad (zao zgj zad zad)) (vv 0)) (zaa (zao zdS (zao zgj zad zad) zad) (zaa (zao zdS zad (zao zgj zad zad)) zag))))) (zao zca (vv 0) zad) (fun _ _=>rfl))))
   zbh)
  (zap (za8 (zba (zb7 false (zaa zad (zaa (zao zdS zad zad) (zaa zad zag)))) (zao ziG (zao zca (vv 0) zad) zad) (fun _ _=>rfl))))))))
theorem zaI:zaw ["_law_keep", "_law_many", "_law_found", "_law_k", "_law_size", "_law_at"] ["_law_keep", "_law_many"] (zab za3):=⟨rfl,rfl,rfl,by decide +kernel,rfl,by decide +kernel,by decide +kernel⟩
theorem zeR (B:Blt mg) (h:HasFn K mg "_law_sizes" za3):DefV P w K mg base "_law_sizes" 1 ["_law_keep", "_law_many"] zaR:=by
 refine DefV.of h zaI (fun _ _ _ _ _ _ us hl=>us2 us hl (fun _ _=>rfl)) (fun f cdv A outer s H E hr=>?_)
 exact (zaf (zaM (i:=2) zaI.nd rfl (Or.inl rfl) (zb7 true zag))
  (zaf (zdx zak.passes rfl (zcm rfl B.range (zaa (vv 1) zag)) (zb1 (i:=3) zaI.nd rfl (Or.inl rfl))
   (zaf (zb5 (zfx PySem.F.plainAttrs_list PySem.F.slot_list_append PySem.F.type_list_append zck zdm (vv 2) (zaa zad zag)))
   (zaf (zaM (i:=4) zaI.nd rfl (Or.inl rfl) zad)
   (zap (zii (fun _ _=>1000000) zak.passes (zbX o_gt (zfx PySem.F.plainAttrs_list PySem.F.slot_list_count PySem.F.type_list_count zh4 zjJ (vv 2) (zaa (vv 4) zag)) (vv 0) (zbC _))
    (zaf (zaM (i:=5) zaI.nd rfl (Or.inl rfl) (zfx PySem.F.plainAttrs_list PySem.F.slot_list_index PySem.F.type_list_index ziA zjp (vv 2) (zaa (vv 4) zag)))
    (zaf (zaM (i:=2) zaI.nd rfl (Or.inl rfl) (zao (zbu true) (zao (zbu false) (zdi false (vv 2) zfg (zdw (vv 5))) (zb7 false (zaa (zao zdR zad (vv 4)) zag))) (zdi false (vv 2) (zdw (zao (zbu false) (vv 5) zad)) zfg)))
    (zap (zaM (i:=4) zaI.nd rfl (Or.inl rfl) (zao zdR zad (vv 4)))))))))))
  (zap (za8 (vf 2)))))
theorem zch:zaw ["_law_script", "_law_k", "_law_cell_here"] ["_law_script", "_law_k"] (zab zbj):=⟨rfl,rfl,rfl,by decide +kernel,rfl,by decide +kernel,by decide +kernel⟩
theorem zfn (B:Blt mg) (h:HasFn K mg "_law_cell" zbj) (zaT:DefV P w K mg base "_law_mix" 1 ["_law_cell_here", "_law_k"] zaL):DefV P w K mg base "_law_cell" 2 ["_law_script", "_law_k"] zaA:=by
 refine DefV.of h zch (fun _ _ _ _ _ _ us hl=>us2 us hl (fun _ _=>rfl)) (fun f cdv A outer s H E hr=>?_)
 exact (zaf (zaM (i:=2) zch.nd rfl (Or.inl rfl) zad)
  (zaf (zcY (zbX o_lt (vv 1) (zat zdJ rfl B.len PySem.boot_len (zaa (vv 0) zag)) (zbC _))
   (zap (zaM (i:=2) zch.nd rfl (Or.inl rfl) (zao zca (zba (vv 0) (vv 1) (fun _ _=>rfl)) zad)))
   zbh)
  (zap (za8 (zbt zak zaT (hr.mono (by first | decide | omega)) rfl (zaa (vv 2) (zaa (zao (zbu false) (vv 1) zad) zag)))))))
theorem zaG:zaw ["_law_sums", "_law_row", "_law_sizes_here", "_law_told", "_law_at", "_law_block", "_law_size", "_law_some"] ["_law_sums", "_law_row", "_law_sizes_here"] (zab zaO):=⟨rfl,rfl,rfl,by decide +kernel,rfl,by decide +kernel,by decide +kernel⟩
theorem ze1 (B:Blt mg) (h:HasFn K mg "_law_asked" zaO) (M_Sums_blocks:zcx P w K mg base "Sums" "blocks" 1 1 [] zaK):DefV P w K mg base "_law_asked" 2 ["_law_sums", "_law_row", "_law_sizes_here"] zar:=by
 refine DefV.of h zaG (fun _ _ _ _ _ _ us hl=>us3 us hl (fun _ _ _=>rfl)) (fun f cdv A outer s H E hr=>?_)
 exact (zaf (zaM (i:=3) zaG.nd rfl (Or.inl rfl) (zhU zak (TabM.cons M_Sums_blocks (hr.mono (by first | decide | omega)) TabM.nil) (vv 0)))
  (zaf (zcY (VW.vt (zid (zd7 (zdP (zat zdo rfl B.isinstance boot_isinstance (zaa (vv 3) (zaa (zh9 rfl B.list PyProof.Rows.boot_list) zag))))) (zf3 (zbX (o_ne hr.units) (zat zdJ rfl B.len PySem.boot_len (zaa (vv 3) zag)) (zat zdJ rfl B.len PySem.boot_len (zaa (vv 2) zag)) (zbC _)))))
   (zap (za8 zgh))
   zbh)
  (zaf (zaM (i:=4) zaG.nd rfl (Or.inl rfl) zad)
  (zaf (zdx zak.passes rfl (zlh rfl B.zip (vv 3) (vv 2)) (zla rfl (zfJ (zb1 (i:=5) zaG.nd rfl (Or.inl rfl)) (zfJ (zb1 (i:=6) zaG.nd rfl (Or.inl rfl)) zkA)))
   (zaf (zaM (i:=7) zaG.nd rfl (Or.inl rfl) (zdi false (vv 1) (zdw (vv 4)) (zdw (zao (zbu false) (vv 4) (vv 6)))))
   (zaf (zcY (VW.vt (zid (zd7 (zdP (zat zdo rfl B.isinstance boot_isinstance (zaa (vv 5) (zaa (zh9 rfl B.tuple PyProof.Rows.boot_tuple) zag))))) (zf3 (zbX (o_ne hr.units) (vv 5) (zf0 (zaa (vv 6) (zaa (zat (zl4 rfl) rfl B.sum boot_sum (zaa (vv 7) zag)) (zaa (zat (zll rfl) rfl B.min boot_min (zaa (vv 7) zag)) (zaa (zat (zlI rfl) rfl B.max boot_max (zaa (vv 7) zag)) zag))))) (zbC _)))))
    (zap (za8 zgh))
    zbh)
   (zaf (zcY (zbX (o_ne hr.units) (zmc false ["_law_one"] [] rfl (LcOk.of (zab zaO) ["_law_sums", "_law_row", "_law_sizes_here", "_law_told", "_law_at", "_law_block", "_law_size", "_law_some"] rfl rfl (by decide +kernel)) (zlm (vv 5)) (fun cl C s H fp=>⟨(zb1 (i:=0) (show (["_law_one"] : List Str).Nodup by decide +kernel) rfl (Or.inl rfl)),(zjY (VW.vt (zid (zd7 (zdP (zat zdo rfl B.isinstance boot_isinstance (zaa (vv 0) (zaa (zh9 rfl B.int PyProof.Rows.boot_int) zag))))) (zf3 (zdP (zat zdo rfl B.isinstance boot_isinstance (zaa (vv 0) (zaa (zh9 rfl B.bool PyProof.Rows.boot_bool) zag)))))))),(vv 0)⟩)) (zb7 false zag) (zbC _))
    (zap (za8 zgh))
    zbh)
   (zap (zaM (i:=4) zaG.nd rfl (Or.inl rfl) (zao (zbu false) (vv 4) (vv 6))))))))
  (zaf (zb5 (zfx PySem.F.plainAttrs_list PySem.F.slot_list_append PySem.F.type_list_append zck zdm (vv 3) (zaa (zf0 (zaa zad (zaa zad (zaa zad (zaa zad zag))))) zag)))
  (zap (za8 (ziS (o_eq hr.units) (vv 4) (zat zdJ rfl B.len PySem.boot_len (zaa (vv 1) zag)) (zbC _)))))))))
theorem zcT:zaw ["_law_script", "_law_start", "_law_most", "_law_cells"] ["_law_script", "_law_start", "_law_most"] (zab za1):=⟨rfl,rfl,rfl,by decide +kernel,rfl,by decide +kernel,by decide +kernel⟩
theorem zeI (B:Blt mg) (h:HasFn K mg "_law_steps" za1) (zaC:DefV P w K mg base "_law_cell" 2 ["_law_script", "_law_k"] zaA):DefV P w K mg base "_law_steps" 3 ["_law_script", "_law_start", "_law_most"] zbp:=by
 refine DefV.of h zcT (fun _ _ _ _ _ _ us hl=>us3 us hl (fun _ _ _=>rfl)) (fun f cdv A outer s H E hr=>?_)
 exact (zaf (zaM (i:=3) zcT.nd rfl (Or.inl rfl) (zat (ze9 rfl) rfl B.max boot_max (zaa zad (zaa (zao zdS (zat zdJ rfl B.len PySem.boot_len (zaa (vv 0) zag)) (vv 1)) zag))))
  (zap (za8 (zat (ziX rfl) rfl B.min boot_min (zaa (vv 2) (zaa (zat (ze9 rfl) rfl B.max boot_max (zaa (vv 3) (zaa (zao zca (zbt zak zaC (hr.mono (by first | decide | omega)) rfl (zaa (vv 0) (zaa (zao zdS (vv 1) zad) zag))) (zao (zbu false) (vv 2) zad)) zag))) zag))))))
theorem zc8:zaw ["_law_script", "_law_start", "_law_k", "_law_cells"] ["_law_script", "_law_start", "_law_k"] (zab zbd):=⟨rfl,rfl,rfl,by decide +kernel,rfl,by decide +kernel,by decide +kernel⟩
theorem zfG (B:Blt mg) (h:HasFn K mg "_law_step" zbd) (zaC:DefV P w K mg base "_law_cell" 2 ["_law_script", "_law_k"] zaA) (zaT:DefV P w K mg base "_law_mix" 1 ["_law_cell_here", "_law_k"] zaL):DefV P w K mg base "_law_step" 3 ["_law_script", "_law_start", "_law_k"] zbk:=by
 refine DefV.of h zc8 (fun _ _ _ _ _ _ us hl=>us3 us hl (fun _ _ _=>rfl)) (fun f cdv A outer s H E hr=>?_)
 exact (zaf (zaM (i:=3) zc8.nd rfl (Or.inl rfl) (zat (ze9 rfl) rfl B.max boot_max (zaa zad (zaa (zao zdS (zat zdJ rfl B.len PySem.boot_len (zaa (vv 0) zag)) (vv 1)) zag))))
  (zap (za8 (zbt zak zaT (hr.mono (by first | decide | omega)) rfl (zaa (zbt zak zaC (hr.mono (by first | decide | omega)) rfl (zaa (vv 0) (zaa (zao (zbu false) (vv 1) (zao zca (vv 2) (zat (ze9 rfl) rfl B.max boot_max (zaa zad (zaa (vv 3) zag))))) zag))) (zaa (vv 2) zag))))))
theorem zdF:zaw ["self", "block", "level", "some"] ["self", "block", "level"] (zab zbv):=⟨rfl,rfl,rfl,by decide +kernel,rfl,by decide +kernel,by decide +kernel⟩
theorem zdX (B:Blt mg) (zcu:DefV P w K mg base "together" 1 ["one", "other"] zbw) (A_keep:zaV K ["Sums"] "keep") (A_levels:zaV K ["Sums"] "levels") {cls:Str} (hcls:cls = "Sums") (h:HasM K mg cls "lay" "Sums.lay" zbv):∀ n:Nat,zcx P w K mg base cls "lay" (2 + n) 3 [] (zaB n)
 | 0=>zcx.none (ps:=["self", "block", "level"]) (N:=["self", "block", "level", "some"]) h rfl (fun _ _ _ _ _ _ us hl=>us3 us hl (fun _ _ _=>rfl))
 | n + 1=>by
  have ih:=zdX B zcu A_keep A_levels hcls h n
  subst hcls
  refine zcx.of (k:=2 + n) h zdF (fun _ _ _ _ _ _ us hl=>us3 us hl (fun _ _ _=>rfl)) (fun f cdv A outer s H E hr=>?_)
  exact (zaf (zcY (zbX (o_eq hr.units) (vv 2) (zjj (zat zdJ rfl B.len PySem.boot_len (zaa (zdW (vv 0) A_levels) zag))) (zbC _))
   (zap (zb5 (zh7 (i:=0) (zhK (i:=0) rfl (Or.inl rfl) (by decide) (by decide)) A_levels)))
   zbh)
  (zaf (zaM (i:=3) zdF.nd rfl (Or.inl rfl) (zlK (zba (zdW (vv 0) A_levels) (vv 2) (fun _ _=>rfl)) (zfR 2)))
  (zaf (zb5 (zfx PySem.F.plainAttrs_list PySem.F.slot_list_append PySem.F.type_list_append zck zdm (vv 3) (zaa (vv 1) zag)))
  (zap (zcY (zbX o_gt (zat zdJ rfl B.len PySem.boot_len (zaa (vv 3) zag)) (zdW (vv 0) A_keep) (zbC _))
   (zaf (zi3 (zdi true (vv 3) (zdw zad) zfg) (zkC (ziR (zdW (vv 0) A_levels) (vv 2)) (zfR 2)))
   (zap (zb5 (zft zak (TabM.cons ih (hr.mono (by first | decide | omega)) TabM.nil) (vv 0) (zaa (zbt zak zcu (hr.mono (by first | decide | omega)) rfl (zaa (zba (vv 3) zad (fun _ _=>rfl)) (zaa (zba (vv 3) zad (fun _ _=>rfl)) zag))) (zaa (zao (zbu false) (vv 2) zad) zag))))))
   zbh)))))
theorem zfo:zaw ["self", "number"] ["self", "number"] (zab zby):=⟨rfl,rfl,rfl,by decide +kernel,rfl,by decide +kernel,by decide +kernel⟩
theorem zgs (B:Blt mg) (A_many:zaV K ["Sums"] "many") (M_Sums_lay:zcx P w K mg base "Sums" "lay" 14 3 [] (zaB 12)) {cls:Str} (h:HasM K mg cls "put" "Sums.put" zby):zcx P w K mg base cls "put" 15 2 [] zbg:=by
 refine zcx.of h zfo (fun _ _ _ _ _ _ us hl=>us2 us hl (fun _ _=>rfl)) (fun f cdv A outer s H E hr=>?_)
 exact (zaf (zf7 (vv 0) (zao (zbu false) (zdW (vv 0) A_many) zad) A_many)
  (zap (zb5 (zft zak (TabM.cons M_Sums_lay (hr.mono (by first | decide | omega)) TabM.nil) (vv 0) (zaa (zf0 (zaa zad (zaa (vv 1) (zaa (vv 1) (zaa (vv 1) zag))))) (zaa zad zag))))))
theorem zbW:zaw ["_law_script", "_law_sort", "_law_first", "_law_keeps", "_law_pair", "_law_rows", "_law_k", "_law_cell_here", "_law_j", "_law_number_here", "_law_at", "_law_sizes_here"] ["_law_script"] (zab zep):=⟨rfl,rfl,rfl,by decide +kernel,rfl,by decide +kernel,by decide +kernel⟩
theorem zma {f:Addr} {fd:FuncData} (B:Blt mg) (F:Fun K "law" "law" zep f fd) (zbm:DefV P w K mg base "_law_asked" 2 ["_law_sums", "_law_row", "_law_sizes_here"] zar) (zaC:DefV P w K mg base "_law_cell" 2 ["_law_script", "_law_k"] zaA) (zaT:DefV P w K mg base "_law_mix" 1 ["_law_cell_here", "_law_k"] zaL) (zbY:DefV P w K mg base "_law_number" 1 ["_law_cell_here", "_law_sort"] zah) (zbI:DefV P w K mg base "_law_sizes" 1 ["_law_keep", "_law_many"] zaR) (zcM:DefV P w K mg base "_law_step" 3 ["_law_script", "_law_start", "_law_k"] zbk) (zcr:DefV P w K mg base "_law_steps" 3 ["_law_script", "_law_start", "_law_most"] zbp) (K_Sums:zgg P w K mg base "Sums" 1 2 zay) (M_Sums_put:zcx P w K mg base "Sums" "put" 15 2 [] zbg):FnOk P w K mg base (CXE P w) 16 f fd ["_law_script"] (spV K 1 ze5):=by
 refine zi4 F zbW (fun f cdv A outer s H E hr=>?_)
 exact (zaf (zaM (i:=1) zbW.nd rfl (Or.inl rfl) (zao zca (zbt zak zaC (hr.mono (by first | decide | omega)) rfl (zaa (vv 0) (zaa zad zag))) zad))
  (zaf (zaM (i:=2) zbW.nd rfl (Or.inl rfl) (zbt zak zaC (hr.mono (by first | decide | omega)) rfl (zaa (vv 0) (zaa zad zag))))
  (zaf (zaM (i:=3) zbW.nd rfl (Or.inl rfl) (zb7 true (zaa (zao (zbu true) zad (zao zca (vv 2) zad)) (zaa (zao (zbu true) zad (zao zca (zao ziG (vv 2) zad) zad)) zag))))
  (zaf (zcY (zbX (o_eq hr.units) (zao zca (zao ziG (vv 2) zad) zad) zad (zbC _))
   (zap (zi3 zad (ziR (vv 3) zad)))
   zbh)
  (zaf (zaM (i:=4) zbW.nd rfl (Or.inl rfl) (zb7 false (zaa (zgR K_Sums (hr.mono (by first | decide | omega)) rfl (zaa (zba (vv 3) zad (fun _ _=>rfl)) zag)) (zaa (zgR K_Sums (hr.mono (by first | decide | omega)) rfl (zaa (zba (vv 3) zad (fun _ _=>rfl)) zag)) zag))))
  (zaf (zaM (i:=5) zbW.nd rfl (Or.inl rfl) (zb7 false (zaa (zb7 true zag) (zaa (zb7 true zag) zag))))
  (zaf (zdx zak.passes rfl (zcm rfl B.range (zaa (zbt zak zcr (hr.mono (by first | decide | omega)) rfl (zaa (vv 0) (zaa zad (zaa zad zag)))) zag)) (zb1 (i:=6) zbW.nd rfl (Or.inl rfl))
   (zaf (zaM (i:=7) zbW.nd rfl (Or.inl rfl) (zbt zak zcM (hr.mono (by first | decide | omega)) rfl (zaa (vv 0) (zaa zad (zaa (vv 6) zag)))))
   (zaf (zdx zak.passes rfl (zcm rfl B.range (zaa (zao (zbu false) zad (zao zca (vv 7) zad)) zag)) (zb1 (i:=8) zbW.nd rfl (Or.inl rfl))
    (zaf (zaM (i:=9) zbW.nd rfl (Or.inl rfl) (zbt zak zbY (hr.mono (by first | decide | omega)) rfl (zaa (zbt zak zaT (hr.mono (by first | decide | omega)) rfl (zaa (vv 7) (zaa (zao (zbu false) zad (vv 8)) zag))) (zaa (vv 1) zag))))
    (zap (zdx zak.passes rfl (zcm rfl B.range (zaa (zao (zbu false) zad (zhj zlP rfl B.int PyProof.Rows.boot_int (zaa (ziS (o_eq hr.units) (zao zca (zat zdJ rfl B.len PySem.boot_len (zaa (zba (vv 5) zad (fun _ _=>rfl)) zag)) zad) zad (zbC _)) zag))) zag)) (zb1 (i:=10) zbW.nd rfl (Or.inl rfl))
     (zaf (zb5 (zfx PySem.F.plainAttrs_list PySem.F.slot_list_append PySem.F.type_list_append zck zdm (zba (vv 5) (vv 10) (fun _ _=>rfl)) (zaa (vv 9) zag)))
     (zap (zb5 (zft zak (TabM.cons M_Sums_put (hr.mono (by first | decide | omega)) TabM.nil) (zba (vv 4) (vv 10) (fun _ _=>rfl)) (zaa (vv 9) zag)))))))))
   (zap (zcY (VW.vt (zlo (zbX (o_eq hr.units) (zao zca (vv 6) zad) (zao zca (vv 2) zad) (zbC _)) (zkk (zd7 (zdP (zbt zak zbm (hr.mono (by first | decide | omega)) rfl (zaa (zba (vv 4) zad (fun _ _=>rfl)) (zaa (zba (vv 5) zad (fun _ _=>rfl)) (zaa (zbt zak zbI (hr.mono (by first | decide | omega)) rfl (zaa (zba (vv 3) zad (fun _ _=>rfl)) (zaa (zat zdJ rfl B.len PySem.boot_len (zaa (zba (vv 5) zad (fun _ _=>rfl)) zag)) zag))) zag)))))))))
    (zap (za8 zgh))
    zbh)))))
  (zaf (zdx zak.passes rfl (zcm rfl B.range (zaa zad zag)) (zb1 (i:=10) zbW.nd rfl (Or.inl rfl))
   (zaf (zaM (i:=11) zbW.nd rfl (Or.inl rfl) (zbt zak zbI (hr.mono (by first | decide | omega)) rfl (zaa (zba (vv 3) (vv 10) (fun _ _=>rfl)) (zaa (zat zdJ rfl B.len PySem.boot_len (zaa (zba (vv 5) (vv 10) (fun _ _=>rfl)) zag)) zag))))
   (zap (zcY (VW.vt (zid (zd7 (zdP (zbt zak zbm (hr.mono (by first | decide | omega)) rfl (zaa (zba (vv 4) (vv 10) (fun _ _=>rfl)) (zaa (zba (vv 5) (vv 10) (fun _ _=>rfl)) (zaa (vv 11) zag)))))) (zf3 (zd7 (zdP (zbt zak zbm (hr.mono (by first | decide | omega)) rfl (zaa (zba (vv 4) (vv 10) (fun _ _=>rfl)) (zaa (zba (vv 5) (vv 10) (fun _ _=>rfl)) (zaa (vv 11) zag)))))))))
    (zap (za8 zgh))
    zbh))))
  (zap (za8 zgh))))))))))
end
theorem all_mk {l:PySem.W.OpenLaw} {w:World} {K:PySem.W.Frag} {h:Heap} {mg:Str→Option Value} {fa f0 f1 f2 f3 f4 f5 f6 f7 f8:Addr} (X:K.In h) (G:h.Ns mainGlobals mg) (hfa:mg "law" = some (.ref fa))
  {od0 an0 od1 an1 od2 an2 od3 an3 od4 an4 od5 an5 od6 an6 od7 an7 od8 an8:Option Addr} {sl0 sl1 sl2 sl3 sl4 sl5 sl6 sl7 sl8:Array (Option Value)} {oc0 kV0 dc0 pm0 cd0 ct0 oc1 kV1 dc1 pm1 cd1 ct1 oc2 kV2 dc2 pm2 cd2 ct2 oc3 kV3 dc3 pm3 cd3 ct3 oc4 kV4 dc4 pm4 cd4 ct4 oc5 kV5 dc5 pm5 cd5 ct5 oc6 kV6 dc6 pm6 cd6 ct6 oc7 kV7 dc7 pm7 cd7 ct7 oc8 kV8 dc8 pm8 cd8 ct8:Value}
  (a0:PySem.W.nsIn K mainGlobals "together" = some (some (.ref f0))) (l0:K.lookup f0=some ⟨oc0,od0, .func (PySem.W.fnOf "together" "together" (zax zbz) (zal zbz) (zab zbz) .none kV0 dc0 pm0 an0 cd0 ct0),sl0⟩) (c0:PySem.W.codeIn K cd0 "together" = true) (k0:PySem.W.keepIn K (.ref f0)=true)
  (a1:PySem.W.nsIn K mainGlobals "_law_mix" = some (some (.ref f1))) (l1:K.lookup f1=some ⟨oc1,od1, .func (PySem.W.fnOf "_law_mix" "_law_mix" (zax zbx) (zal zbx) (zab zbx) .none kV1 dc1 pm1 an1 cd1 ct1),sl1⟩) (c1:PySem.W.codeIn K cd1 "_law_mix" = true) (k1:PySem.W.keepIn K (.ref f1)=true)
  (a2:PySem.W.nsIn K mainGlobals "_law_cell" = some (some (.ref f2))) (l2:K.lookup f2=some ⟨oc2,od2, .func (PySem.W.fnOf "_law_cell" "_law_cell" (zax zbj) (zal zbj) (zab zbj) .none kV2 dc2 pm2 an2 cd2 ct2),sl2⟩) (c2:PySem.W.codeIn K cd2 "_law_cell" = true) (k2:PySem.W.keepIn K (.ref f2)=true)
  (a3:PySem.W.nsIn K mainGlobals "_law_number" = some (some (.ref f3))) (l3:K.lookup f3=some ⟨oc3,od3, .func (PySem.W.fnOf "_law_number" "_law_number" (zax zaU) (zal zaU) (zab zaU) .none kV3 dc3 pm3 an3 cd3 ct3),sl3⟩) (c3:PySem.W.codeIn K cd3 "_law_number" = true) (k3:PySem.W.keepIn K (.ref f3)=true)
  (a4:PySem.W.nsIn K mainGlobals "_law_steps" = some (some (.ref f4))) (l4:K.lookup f4=some ⟨oc4,od4, .func (PySem.W.fnOf "_law_steps" "_law_steps" (zax za1) (zal za1) (zab za1) .none kV4 dc4 pm4 an4 cd4 ct4),sl4⟩) (c4:PySem.W.codeIn K cd4 "_law_steps" = true) (k4:PySem.W.keepIn K (.ref f4)=true)
  (a5:PySem.W.nsIn K mainGlobals "_law_step" = some (some (.ref f5))) (l5:K.lookup f5=some ⟨oc5,od5, .func (PySem.W.fnOf "_law_step" "_law_step" (zax zbd) (zal zbd) (zab zbd) .none kV5 dc5 pm5 an5 cd5 ct5),sl5⟩) (c5:PySem.W.codeIn K cd5 "_law_step" = true) (k5:PySem.W.keepIn K (.ref f5)=true)
  (a6:PySem.W.nsIn K mainGlobals "_law_sizes" = some (some (.ref f6))) (l6:K.lookup f6=some ⟨oc6,od6, .func (PySem.W.fnOf "_law_sizes" "_law_sizes" (zax za3) (zal za3) (zab za3) .none kV6 dc6 pm6 an6 cd6 ct6),sl6⟩) (c6:PySem.W.codeIn K cd6 "_law_sizes" = true) (k6:PySem.W.keepIn K (.ref f6)=true)
  (a7:PySem.W.nsIn K mainGlobals "_law_asked" = some (some (.ref f7))) (l7:K.lookup f7=some ⟨oc7,od7, .func (PySem.W.fnOf "_law_asked" "_law_asked" (zax zaO) (zal zaO) (zab zaO) .none kV7 dc7 pm7 an7 cd7 ct7),sl7⟩) (c7:PySem.W.codeIn K cd7 "_law_asked" = true) (k7:PySem.W.keepIn K (.ref f7)=true)
  (a8:PySem.W.nsIn K mainGlobals "law" = some (some (.ref f8))) (l8:K.lookup f8=some ⟨oc8,od8, .func (PySem.W.fnOf "law" "law" (zax zep) (zal zep) (zab zep) .none kV8 dc8 pm8 an8 cd8 ct8),sl8⟩) (c8:PySem.W.codeIn K cd8 "law" = true) (k8:PySem.W.keepIn K (.ref f8)=true)
  (zhJ:PySem.W.nsIn K mainGlobals "bool" = some none)
  (zj4:PySem.W.nsIn K mainGlobals "int" = some none)
  (zcg:PySem.W.nsIn K mainGlobals "isinstance" = some none)
  (zj5:PySem.W.nsIn K mainGlobals "len" = some none)
  (zg9:PySem.W.nsIn K mainGlobals "list" = some none)
  (zjV:PySem.W.nsIn K mainGlobals "max" = some none)
  (zjT:PySem.W.nsIn K mainGlobals "min" = some none)
  (zfD:PySem.W.nsIn K mainGlobals "range" = some none)
  (zcX:PySem.W.nsIn K mainGlobals "reversed" = some none)
  (zjq:PySem.W.nsIn K mainGlobals "sum" = some none)
  (zfH:PySem.W.nsIn K mainGlobals "tuple" = some none)
  (zko:PySem.W.nsIn K mainGlobals "zip" = some none)
  {za6:Addr} (zbT:PySem.W.nsIn K mainGlobals "Sums" = some (some (.ref za6)))
  {fm_Sums___init__:Addr} {odm_Sums___init__ anm_Sums___init__:Option Addr} {slm_Sums___init__:Array (Option Value)} {ocm_Sums___init__ kVm_Sums___init__ dcm_Sums___init__ pmm_Sums___init__ cdm_Sums___init__ ctm_Sums___init__:Value}
  (at_Sums___init__:PySem.W.findIn K (.ref za6) "__init__" = some (some (.ref fm_Sums___init__)))
  (lm_Sums___init__:K.lookup fm_Sums___init__=some ⟨ocm_Sums___init__,odm_Sums___init__, .func (PySem.W.fnOf "__init__" "Sums.__init__" (zax zas) (zal zas) (zab zas) .none kVm_Sums___init__ dcm_Sums___init__ pmm_Sums___init__ anm_Sums___init__ cdm_Sums___init__ ctm_Sums___init__),slm_Sums___init__⟩) (cm_Sums___init__:PySem.W.codeIn K cdm_Sums___init__ "Sums.__init__" = true) (km_Sums___init__:PySem.W.keepIn K (.ref fm_Sums___init__)=true) (im_Sums___init__:PySem.W.isFn K (.ref fm_Sums___init__)=true)
  {fm_Sums_put:Addr} {odm_Sums_put anm_Sums_put:Option Addr} {slm_Sums_put:Array (Option Value)} {ocm_Sums_put kVm_Sums_put dcm_Sums_put pmm_Sums_put cdm_Sums_put ctm_Sums_put:Value}
  (at_Sums_put:PySem.W.findIn K (.ref za6) "put" = some (some (.ref fm_Sums_put)))
  (lm_Sums_put:K.lookup fm_Sums_put=some ⟨ocm_Sums_put,odm_Sums_put, .func (PySem.W.fnOf "put" "Sums.put" (zax zby) (zal zby) (zab zby) .none kVm_Sums_put dcm_Sums_put pmm_Sums_put anm_Sums_put cdm_Sums_put ctm_Sums_put),slm_Sums_put⟩) (cm_Sums_put:PySem.W.codeIn K cdm_Sums_put "Sums.put" = true) (km_Sums_put:PySem.W.keepIn K (.ref fm_Sums_put)=true) (im_Sums_put:PySem.W.isFn K (.ref fm_Sums_put)=true)
  {fm_Sums_lay:Addr} {odm_Sums_lay anm_Sums_lay:Option Addr} {slm_Sums_lay:Array (Option Value)} {ocm_Sums_lay kVm_Sums_lay dcm_Sums_lay pmm_Sums_lay cdm_Sums_lay ctm_Sums_lay:Value}
  (at_Sums_lay:PySem.W.findIn K (.ref za6) "lay" = some (some (.ref fm_Sums_lay)))
  (lm_Sums_lay:K.lookup fm_Sums_lay=some ⟨ocm_Sums_lay,odm_Sums_lay, .func (PySem.W.fnOf "lay" "Sums.lay" (zax zbv) (zal zbv) (zab zbv) .none kVm_Sums_lay dcm_Sums_lay pmm_Sums_lay anm_Sums_lay cdm_Sums_lay ctm_Sums_lay),slm_Sums_lay⟩) (cm_Sums_lay:PySem.W.codeIn K cdm_Sums_lay "Sums.lay" = true) (km_Sums_lay:PySem.W.keepIn K (.ref fm_Sums_lay)=true) (im_Sums_lay:PySem.W.isFn K (.ref fm_Sums_lay)=true)
  {fm_Sums_blocks:Addr} {odm_Sums_blocks anm_Sums_blocks:Option Addr} {slm_Sums_blocks:Array (Option Value)} {ocm_Sums_blocks kVm_Sums_blocks dcm_Sums_blocks pmm_Sums_blocks cdm_Sums_blocks ctm_Sums_blocks:Value}
  (at_Sums_blocks:PySem.W.findIn K (.ref za6) "blocks" = some (some (.ref fm_Sums_blocks)))
  (lm_Sums_blocks:K.lookup fm_Sums_blocks=some ⟨ocm_Sums_blocks,odm_Sums_blocks, .func (PySem.W.fnOf "blocks" "Sums.blocks" (zax zaS) (zal zaS) (zab zaS) .none kVm_Sums_blocks dcm_Sums_blocks pmm_Sums_blocks anm_Sums_blocks cdm_Sums_blocks ctm_Sums_blocks),slm_Sums_blocks⟩) (cm_Sums_blocks:PySem.W.codeIn K cdm_Sums_blocks "Sums.blocks" = true) (km_Sums_blocks:PySem.W.keepIn K (.ref fm_Sums_blocks)=true) (im_Sums_blocks:PySem.W.isFn K (.ref fm_Sums_blocks)=true)
  (pg_Sums:PySem.W.plainGet K za6 Str.empty=true) (hd_Sums:PySem.W.hasDictIn K za6=true) (po_Sums:PySem.W.plainOver K za6=true) (zfE:PySem.W.findIn K (.ref za6) "__setattr__" = some (some (.builtin "object.__setattr__"))) (mk_Sums:PySem.W.makesIn K za6=true) (kc_Sums:PySem.W.keepIn K (.ref za6)=true)
  (na_Sums_keep:PySem.W.findIn K (.ref za6) "keep" = some none)
  (na_Sums_levels:PySem.W.findIn K (.ref za6) "levels" = some none)
  (na_Sums_many:PySem.W.findIn K (.ref za6) "many" = some none)
  : ∃ fd:FuncData,(∀ (s:Shared) (v:Value),BindsTo s fd ⟨[v],[]⟩ [("_law_script",v)])∧∀ base:Heap,K.In base→base.Ns mainGlobals mg→FnOk l.prog w K mg base CX0 16 fa fd ["_law_script"] (ziz K):=by
 have e:=hfa.symm.trans (PySem.W.mg_of X G a8)
 cases e
 have y_bool:=PySem.W.mg_none_of X G zhJ
 have zmI:=PySem.W.mg_none_of X G zj4
 have zeP:=PySem.W.mg_none_of X G zcg
 have zmM:=PySem.W.mg_none_of X G zj5
 have zk8:=PySem.W.mg_none_of X G zg9
 have zmH:=PySem.W.mg_none_of X G zjV
 have zmw:=PySem.W.mg_none_of X G zjT
 have zks:=PySem.W.mg_none_of X G zfD
 have zgt:=PySem.W.mg_none_of X G zcX
 have zl6:=PySem.W.mg_none_of X G zjq
 have zjr:=PySem.W.mg_none_of X G zfH
 have zmP:=PySem.W.mg_none_of X G zko
 have B:Blt mg:=⟨y_bool,zmI,zeP,zmM,zk8,zmH,zmw,zks,zgt,zl6,zjr,zmP⟩
 have L_Sums:Cls K za6:=⟨pg_Sums,hd_Sums,po_Sums,zfE⟩
 have A_keep:zaV K ["Sums"] "keep":=zcH zbT L_Sums na_Sums_keep (zc3)
 have A_levels:zaV K ["Sums"] "levels":=zcH zbT L_Sums na_Sums_levels (zc3)
 have A_many:zaV K ["Sums"] "many":=zcH zbT L_Sums na_Sums_many (zc3)
 have Fm_Sums___init__:=zd8 (st:=zas) lm_Sums___init__ cm_Sums___init__ km_Sums___init__
 have Fm_Sums_put:=zd8 (st:=zby) lm_Sums_put cm_Sums_put km_Sums_put
 have Fm_Sums_lay:=zd8 (st:=zbv) lm_Sums_lay cm_Sums_lay km_Sums_lay
 have Fm_Sums_blocks:=zd8 (st:=zaS) lm_Sums_blocks cm_Sums_blocks km_Sums_blocks
 have zgq:HasFn K mg "together" zbz:=zbN X G a0 l0 c0 k0
 have zgn:HasFn K mg "_law_mix" zbx:=zbN X G a1 l1 c1 k1
 have zfr:HasFn K mg "_law_cell" zbj:=zbN X G a2 l2 c2 k2
 have zec:HasFn K mg "_law_number" zaU:=zbN X G a3 l3 c3 k3
 have zfc:HasFn K mg "_law_steps" za1:=zbN X G a4 l4 c4 k4
 have zfF:HasFn K mg "_law_step" zbd:=zbN X G a5 l5 c5 k5
 have zeB:HasFn K mg "_law_sizes" za3:=zbN X G a6 l6 c6 k6
 have zeQ:HasFn K mg "_law_asked" zaO:=zbN X G a7 l7 c7 k7
 have FL:=zd8 (st:=zep) l8 c8 k8
 refine ⟨PySem.W.fnOf "law" "law" (zax zep) (zal zep) (zab zep) .none kV8 dc8 pm8 an8 cd8 ct8,fun s v => .of_eq rfl,fun base _ _=>?_⟩
 have zcu:=zgc (P:=l.prog) (w:=w) (base:=base) B zgq
 have zaT:=zgm (P:=l.prog) (w:=w) (base:=base) B zgn
 have zbY:=zek (P:=l.prog) (w:=w) (base:=base) B zec
 have zbI:=zeR (P:=l.prog) (w:=w) (base:=base) B zeB
 have K_Sums:=zdb (P:=l.prog) (w:=w) (base:=base) B A_keep A_levels A_many (cls := "Sums") ⟨za6,fm_Sums___init__,_,zbT,PySem.W.mg_of X G zbT,⟨mk_Sums,at_Sums___init__,im_Sums___init__,kc_Sums⟩,Fm_Sums___init__⟩
 have M_Sums_blocks:=zer (P:=l.prog) (w:=w) (base:=base) B A_levels (cls := "Sums") ⟨za6,fm_Sums_blocks,_,zbT,PySem.W.mg_of X G zbT,L_Sums,⟨at_Sums_blocks,im_Sums_blocks,km_Sums_blocks⟩,Fm_Sums_blocks⟩
 have zaC:=zfn (P:=l.prog) (w:=w) (base:=base) B zfr zaT
 have zbm:=ze1 (P:=l.prog) (w:=w) (base:=base) B zeQ M_Sums_blocks
 have zcr:=zeI (P:=l.prog) (w:=w) (base:=base) B zfc zaC
 have zcM:=zfG (P:=l.prog) (w:=w) (base:=base) B zfF zaC zaT
 have M_Sums_lay:=zdX (P:=l.prog) (w:=w) (base:=base) B zcu A_keep A_levels (cls := "Sums") rfl ⟨za6,fm_Sums_lay,_,zbT,PySem.W.mg_of X G zbT,L_Sums,⟨at_Sums_lay,im_Sums_lay,km_Sums_lay⟩,Fm_Sums_lay⟩ 12
 have M_Sums_put:=zgs (P:=l.prog) (w:=w) (base:=base) B A_many M_Sums_lay (cls := "Sums") ⟨za6,fm_Sums_put,_,zbT,PySem.W.mg_of X G zbT,L_Sums,⟨at_Sums_put,im_Sums_put,km_Sums_put⟩,Fm_Sums_put⟩
 exact zk3 (zma B FL zbm zaC zaT zbY zbI zcM zcr K_Sums M_Sums_put) M.zkp
theorem walk {l:PySem.W.OpenLaw} {q:Program} {loose:List Str} {XP:(Str→Option Value)→Heap→Prop} {YP:World→Heap→Prop} {d:DefRec} {K:Params→PySem.W.Frag} (hn:l.most=some 63) (hdf:d.params.defaults=[])
  (hY:∀ (w:World) (h:Heap),YP w h→(K w.params).In h)
  (F:∀ (w:World) (mg:Str→Option Value) (fa:Addr) (h:Heap),(K w.params).In h→h.Ns mainGlobals mg→mg d.name=some (.ref fa) →
   ∃ fd:FuncData,(∀ (s:Shared) (u:Value),BindsTo s fd ⟨[u],[]⟩ [("_law_script",u)])∧∀ base:Heap,(K w.params).In base→base.Ns mainGlobals mg→FnOk l.prog w (K w.params) mg base CX0 16 fa fd ["_law_script"] (ziz (K w.params))) :
  PySem.W.WalkO q loose XP YP l.row.toRowW d [] (fun f vs=>PySem.call f vs) :=
 L2.zjM (n:=63) (k:=16) (x := "_law_script") (CX:=fun _=>CX0) (sp:=fun w=>ziz (K w.params)) hn (by decide) hdf ⟨rfl,by decide,by decide⟩ hY F (fun _ _ a ns hl _ hS=>⟨a,ns,rfl,hS,hl,fun _=>rfl⟩) fun _ _ _ _ _ z=>z
end K73
open PySem PySem.W PyProof.Rows
namespace HD
open PySem PySem.W PyProof.Rows
def runT (B:String→Option Builtin) (p:Program) (w:World) (lo:Nat) (an:Option Value):Nat→SharedT→Thread→Option SharedT
 | 0,_,_=>none
 | m + 1,x,th=>bif through th then some x else bif stepOk lo an th then (stepT (denote B) p w x th).bind (fun y=>runT B p w lo an m y.1 y.2) else none
theorem zlc {B:String→Option Builtin} {p:Program} {w:World} {lo:Nat} {an:Option Value} (m:Nat) :
  ∀ (x y:SharedT) (th:Thread),runT B p w lo an m x th=some y→topRun B p w lo an m x.abs th=some y.abs:=by
 induction m with
 | zero=>intro x y th z;cases z
 | succ m ih =>
  intro x y th z
  unfold runT at z;unfold topRun
  cases a:through th <;> rw [a] at z
  ·cases b:stepOk lo an th <;> rw [b] at z
   ·cases z
   ·obtain ⟨u,hu,z'⟩:=Option.bind_eq_some_iff.mp (show (stepT (denote B) p w x th).bind _=some y from z)
    dsimp only
    rw [stepT_spec (s':=u.1) (t':=u.2) hu]
    exact ih _ _ _ z'
  ·cases z;rfl
def grow:List Obj→BT→Nat→BT
 | [],T,_=>T
 | o :: l,T,n=>grow l (T.ins n o) (n + 1)
noncomputable def boot (w:World) (os:OsState):SharedT:=⟨grow (boot_heap w.params).objs.toList .nil 0,11,(boot_heap w.params).life,#[],boot_drawn,boot_toks,os⟩
noncomputable def ends (p:Program) (N:Nat) (w:World) (os:OsState):Option SharedT:=runT treeTable p w 11 (some (.ref 6)) N (boot w os) (topStub p)
theorem zgz (w:World):((boot_heap w.params).isNs mainGlobals && (#[] : Array GenState).size == 0,(boot_heap w.params).objs.size,(boot_heap w.params).nsMap mainGlobals "__annotations__")=(true,11,some (Value.ref 6)):=by kernel_rfl
theorem boot_abs (w:World) (os:OsState):(boot w os).abs=⟨boot_heap w.params,#[],boot_drawn,boot_toks,os⟩:=by kernel_rfl
def fits (p:Program) (h:Heap) (y:SharedT):Bool:=staticsOk (importedModules p.main.body) h y.abs.heap && namesBound p y.abs.heap && gensDone y.abs && laidKept h y.abs.heap
theorem left {p q:Program} {loose:List Str} {Xt:Shared→Bool} {α:Type} {Yf:Shared→α} {Ya:World→α} {N:Nat} {g0:Bool}
  (plain:opening p=plainProg p.main.scope.names) (hN:Nat.ble 600 N=true) (fence:∀ s,fenceModules? p s=some s)
  (tests:∀ (w:World) (os:OsState),(ends p N w os).map (fits p (boot_heap w.params))=some true)
  (zkB:∀ (w:World) (os:OsState),(ends p N w os).map (fun y=>openSeen q loose (importedModules p.main.body) Xt g0 y.abs)=some (openGood q loose))
  (hook:∀ (w:World) (os:OsState),(ends p N w os).map (fun y=>Yf y.abs)=some (Ya w)) :
  LeftO p q loose Xt Yf Ya N g0:=by
 intro w
 obtain ⟨⟨hp,ge,dr,tk,os⟩,ho,hq⟩:=Option.map_eq_some_iff.mp (boot_open plain hN fence w)
 simp only [Prod.mk.injEq] at hq
 obtain ⟨rfl,rfl,rfl,rfl⟩:=hq
 have bs:=zgz w
 simp only [Prod.mk.injEq] at bs
 obtain ⟨y,hy,a1⟩:=Option.map_eq_some_iff.mp (tests w os)
 have a2:=zkB w os
 have a3:=hook w os
 rw [hy] at a2 a3
 have rr:=zlc _ _ _ _ hy
 rw [boot_abs] at rr
 have tt:topFrom treeTable p w N ⟨boot_heap w.params,#[],boot_drawn,boot_toks,os⟩ = some y.abs:=by
  unfold topFrom;dsimp only
  rw [bs.1,bs.2.1,bs.2.2,rr]
  show (match fits p (boot_heap w.params) y with | true=>some y.abs | false=>none)=some y.abs
  rw [a1]
 show ((fencedOpening treeTable p w N).bind (topFrom treeTable p w N)).map _=_
 rw [ho,Option.bind_some,tt,Option.map_some,Option.some.injEq,Prod.mk.injEq]
 exact ⟨Option.some.inj a2,Option.some.inj a3⟩
end HD
namespace HD
open PySem PySem.W PyProof.Rows
set_option maxRecDepth 100000
set_option maxHeartbeats 0
noncomputable def zls (ds:List Nat) (l:List Stmt):List Stmt:=@List.rec Stmt (fun _=>Nat→List Stmt) (fun _=>[]) (fun s _ f i=>@Bool.rec (fun _=>List Stmt) (s :: f (Nat.succ i)) (f (Nat.succ i)) (ds.any (Nat.beq i))) l 0
noncomputable def kept:Program:={ PySem.Challenge.pw_rankpouch_k73_blocks_of_sums with main:={ PySem.Challenge.pw_rankpouch_k73_blocks_of_sums.main with body:=zls [1,4] PySem.Challenge.pw_rankpouch_k73_blocks_of_sums.main.body } }
noncomputable def seenX (s:Shared):Bool:=xlAt kept [] s && recOk (RowW.records (OpenRow.toRowW (OpenLaw.row PySem.Challenge.rw_rankpouch_k73_blocks_of_sums))) s
theorem said:OpenLaw.wellSaid PySem.Challenge.rw_rankpouch_k73_blocks_of_sums=true:=by kernel_rfl
theorem plain:opening PySem.Challenge.pw_rankpouch_k73_blocks_of_sums=plainProg PySem.Challenge.pw_rankpouch_k73_blocks_of_sums.main.scope.names:=by kernel_rfl
theorem fence (s:Shared):fenceModules? PySem.Challenge.pw_rankpouch_k73_blocks_of_sums s=some s:=by kernel_rfl
theorem tests (w:World) (os:OsState):(ends PySem.Challenge.pw_rankpouch_k73_blocks_of_sums 1502 w os).map (fits PySem.Challenge.pw_rankpouch_k73_blocks_of_sums (boot_heap w.params))=some true:=by kernel_rfl
theorem zkB (w:World) (os:OsState):(ends PySem.Challenge.pw_rankpouch_k73_blocks_of_sums 1502 w os).map (fun y=>openSeen kept [] (importedModules PySem.Challenge.pw_rankpouch_k73_blocks_of_sums.main.body) seenX true y.abs)=some (openGood kept []):=by kernel_rfl
end HD
open PySem PySem.W PyProof.Rows
local macro_rules
 | `(tactic| o_head $H)=>`(tactic| refine holds_open (q:=HD.kept) (loose:=[]) (N:=1502) (Xt:=HD.seenX)
   (XP:=XL HD.kept []) (Yf:=Hook.obs $H) (Ya:=Hook.val $H) (YP:=Hook.says $H)
   ?_ (Hook.of $H) (Hook.keeps $H) (fun s e=>xl_of s (Bool.and_eq_true_iff.mp e).1) XL.keeps
   (by rfl) (by rfl) (by rfl) (fun s e=>recFacts_of (Bool.and_eq_true_iff.mp e).2)
   (by rfl) (by assumption) (by decide +kernel) ⟨rfl,rfl,rfl,rfl,rfl,by decide +kernel⟩ ?_ ?_)
set_option maxRecDepth 100000 in
set_option maxHeartbeats 0 in
theorem PySem.Challenge.cw_rankpouch_k73_blocks_of_sums_holds : PySem.Challenge.rw_rankpouch_k73_blocks_of_sums.Holds := by
 w_on
 refine holds_law HD.said fun said=>?_
 k_head
 ·clear said
  refine HD.left HD.plain (by kernel_rfl) HD.fence HD.tests HD.zkB ?_
  intro w os
  kernel_rfl
 ·clear said
  w_witness2
 clear said
 k_fill
 refine K73.walk (l:=PySem.Challenge.rw_rankpouch_k73_blocks_of_sums) rfl rfl (fun w h Y=>PySem.W.kIn_of Y) ?F
 case F =>
  intro w mg fa h KX G hmg
  refine' K73.all_mk KX G hmg ?a0 ?l0 ?c0 ?k0 ?a1 ?l1 ?c1 ?k1 ?a2 ?l2 ?c2 ?k2 ?a3 ?l3 ?c3 ?k3 ?a4 ?l4 ?c4 ?k4 ?a5 ?l5 ?c5 ?k5 ?a6 ?l6 ?c6 ?k6 ?a7 ?l7 ?c7 ?k7 ?a8 ?l8 ?c8 ?k8 ?zhJ ?zj4 ?zcg ?zj5 ?zg9 ?zjV ?zjT ?zfD ?zcX ?zjq ?zfH ?zko ?zbT ?at_Sums___init__ ?lm_Sums___init__ ?cm_Sums___init__ ?km_Sums___init__ ?im_Sums___init__ ?at_Sums_put ?lm_Sums_put ?cm_Sums_put ?km_Sums_put ?im_Sums_put ?at_Sums_lay ?lm_Sums_lay ?cm_Sums_lay ?km_Sums_lay ?im_Sums_lay ?at_Sums_blocks ?lm_Sums_blocks ?cm_Sums_blocks ?km_Sums_blocks ?im_Sums_blocks ?pg_Sums ?hd_Sums ?po_Sums ?zfE ?mk_Sums ?kc_Sums ?na_Sums_keep ?na_Sums_levels ?na_Sums_many
  (case a0=>k_is)
  (case l0=>k_is)
  (case c0=>k_is)
  (case k0=>k_is)
  (case a1=>k_is)
  (case l1=>k_is)
  (case c1=>k_is)
  (case k1=>k_is)
  (case a2=>k_is)
  (case l2=>k_is)
  (case c2=>k_is)
  (case k2=>k_is)
  (case a3=>k_is)
  (case l3=>k_is)
  (case c3=>k_is)
  (case k3=>k_is)
  (case a4=>k_is)
  (case l4=>k_is)
  (case c4=>k_is)
  (case k4=>k_is)
  (case a5=>k_is)
  (case l5=>k_is)
  (case c5=>k_is)
  (case k5=>k_is)
  (case a6=>k_is)
  (case l6=>k_is)
  (case c6=>k_is)
  (case k6=>k_is)
  (case a7=>k_is)
  (case l7=>k_is)
  (case c7=>k_is)
  (case k7=>k_is)
  (case a8=>k_is)
  (case l8=>k_is)
  (case c8=>k_is)
  (case k8=>k_is)
  (case zhJ=>k_is)
  (case zj4=>k_is)
  (case zcg=>k_is)
  (case zj5=>k_is)
  (case zg9=>k_is)
  (case zjV=>k_is)
  (case zjT=>k_is)
  (case zfD=>k_is)
  (case zcX=>k_is)
  (case zjq=>k_is)
  (case zfH=>k_is)
  (case zko=>k_is)
  (case zbT=>k_is)
  (case at_Sums___init__=>k_is)
  (case lm_Sums___init__=>k_is)
  (case cm_Sums___init__=>k_is)
  (case km_Sums___init__=>k_is)
  (case im_Sums___init__=>kernel_rfl)
  (case at_Sums_put=>k_is)
  (case lm_Sums_put=>k_is)
  (case cm_Sums_put=>k_is)
  (case km_Sums_put=>k_is)
  (case im_Sums_put=>kernel_rfl)
  (case at_Sums_lay=>k_is)
  (case lm_Sums_lay=>k_is)
  (case cm_Sums_lay=>k_is)
  (case km_Sums_lay=>k_is)
  (case im_Sums_lay=>kernel_rfl)
  (case at_Sums_blocks=>k_is)
  (case lm_Sums_blocks=>k_is)
  (case cm_Sums_blocks=>k_is)
  (case km_Sums_blocks=>k_is)
  (case im_Sums_blocks=>kernel_rfl)
  (case pg_Sums=>kernel_rfl)
  (case hd_Sums=>kernel_rfl)
  (case po_Sums=>kernel_rfl)
  (case zfE=>k_is)
  (case mk_Sums=>kernel_rfl)
  (case kc_Sums=>k_is)
  (case na_Sums_keep=>k_is)
  (case na_Sums_levels=>k_is)
  (case na_Sums_many=>k_is)
