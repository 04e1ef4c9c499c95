import PyProof.Rows.All
import KE.KDictList
import KE.KItemsList
import KE.KRevIter
import KE.KSortTup
import KE.KUnpack
import PyProof.Draws
import PyProof.ExcClass3
import PyProof.ExcInit
import PyProof.InstStoreFacts
import PyProof.MaxThree
import PyProof.P3In
import PyProof.Rows.FStr
import Wide.All
import OpenK.AllK
import Wide.FinOn
import Lean
import PyProof.EqAt
import PyProof.EqKinds
import PyProof.TupleCall
import PySem.Challenge.RW_rankpouch_k85_whole_judge
set_option Elab.async false
set_option linter.all false
set_option maxRecDepth 100000
namespace L2
open PySem PySem.Spec PyProof.Rows
abbrev Key:=Sum Int Str
def zl3:Key→Value→Bool
 | .inl k,v=>Value.isInt k v
 | .inr x,v=>Value.isStrOf x v
def keyH (w:World):Key→Int
 | .inl k=>hashInt k
 | .inr x=>hashStr w x
theorem zbh:∀ {k:Key} {v:Value},zl3 k v=true→(∃ i t,k=Sum.inl i∧v=Value.int i t)∨(∃ x t,k=Sum.inr x∧v=Value.str x t)
 | .inl i,v,h=>by
  obtain ⟨t,e⟩:=Value.isInt_shape (k:=i) (v:=v) h
  exact .inl ⟨i,t,rfl,e⟩
 | .inr x,v,h=>by
  obtain ⟨t,e⟩:=Value.isStrOf_shape (x:=x) (v:=v) h
  exact .inr ⟨x,t,rfl,e⟩
theorem zmU (i:Int) (t:Tok):zl3 (.inl i) (.int i t)=true:=by simp [zl3,Value.isInt]
theorem znd (x:Str) (t:Tok):zl3 (.inr x) (.str x t)=true:=by simp [zl3,Value.isStrOf]
theorem zsr (a b:Int):decide ((Sum.inl a:Key)=Sum.inl b)=(a == b):=by
 by_cases e:a=b
 ·subst e;simp
 ·have h:¬ (Sum.inl a:Key)=Sum.inl b:=fun q=>e (Sum.inl.inj q)
  rw [decide_eq_false h]
  exact (beq_eq_false_iff_ne.mpr e).symm
theorem zr6 (a b:Str):decide ((Sum.inr a:Key)=Sum.inr b)=decide (a=b):=by
 by_cases e:a=b
 ·subst e;simp
 ·have h:¬ (Sum.inr a:Key)=Sum.inr b:=fun q=>e (Sum.inr.inj q)
  rw [decide_eq_false h,decide_eq_false e]
theorem zsp (a:Int) (b:Str):decide ((Sum.inl a:Key)=Sum.inr b)=false:=decide_eq_false (fun q=>nomatch q)
theorem zsa (a:Str) (b:Int):decide ((Sum.inr a:Key)=Sum.inl b)=false:=decide_eq_false (fun q=>nomatch q)
def zb8 (prog:Program) (w:World):PySem.KeyKind prog w Key where
 is:=zl3
 hash:=keyH w
 inj:=fun v a b ha hb=>by
  rcases zbh ha with ⟨i,t,rfl,rfl⟩ | ⟨x,t,rfl,rfl⟩
  ·rcases zbh hb with ⟨j,u,rfl,e⟩ | ⟨y,u,rfl,e⟩
   ·injection e with e1 _;rw [e1]
   ·exact nomatch e
  ·rcases zbh hb with ⟨j,u,rfl,e⟩ | ⟨y,u,rfl,e⟩
   ·exact nomatch e
   ·injection e with e1 _;rw [e1]
 byValue:=fun k v h=>by
  rcases zbh h with ⟨i,t,rfl,rfl⟩ | ⟨x,t,rfl,rfl⟩ <;> rfl
 pyHash:=fun hv h=>by
  rcases zbh hv with ⟨i,t,rfl,rfl⟩ | ⟨x,t,rfl,rfl⟩
  ·exact wpAny_pyHash_int h
  ·exact wpAny_pyHash_str h
 eqBool:=fun hu hv h=>by
  rcases zbh hu with ⟨i,t,rfl,rfl⟩ | ⟨x,t,rfl,rfl⟩
  ·rcases zbh hv with ⟨j,u,rfl,rfl⟩ | ⟨y,u,rfl,rfl⟩
   ·rw [zsr] at h;exact wpAny_eqBool_int h
   ·rw [zsp] at h;exact SeqAt.EqAt.int_str i t y u _ _ _ _ h
  ·rcases zbh hv with ⟨j,u,rfl,rfl⟩ | ⟨y,u,rfl,rfl⟩
   ·rw [zsa] at h;exact SeqAt.EqAt.str_int x t j u _ _ _ _ h
   ·rw [zr6] at h;exact wpAny_eqBool_str h
 «strs»:=fun k x t v h=>by
  rcases zbh h with ⟨i,u,rfl,e⟩ | ⟨y,u,rfl,e⟩
  ·exact nomatch e
  ·injection e with e1 _
   subst e1
   cases v <;> rfl
theorem zkF (prog:Program) (w:World) (i:Int) (t:Tok):(zb8 prog w).is (.inl i) (.int i t)=true:=zmU i t
theorem zkV (prog:Program) (w:World) (x:Str) (t:Tok):(zb8 prog w).is (.inr x) (.str x t)=true:=znd x t
end L2
namespace L2
open PySem PySem.Spec PyProof.Rows
inductive V where
 | non | bl (b:Bool) | int (i:Int) | str (x:Str) | byt (b:Array UInt8) | flt (b:UInt64) | ref (a:Addr) | ty (n:String)
 deriving DecidableEq
def RelV:V→Value→Prop
 | .non,u=>u=Value.none
 | .bl b,u=>u=Value.bool b
 | .int i,u=>∃ t,u=Value.int i t
 | .str x,u=>∃ t,u=Value.str x t
 | .byt b,u=>∃ t,u=Value.bytes b t
 | .flt b,u=>∃ t,u=Value.float b t
 | .ref a,u=>u=Value.ref a
 | .ty n,u=>u=Value.type n
abbrev Vals:List V→List Value→Prop:=Paired RelV
theorem Vals.length {xs:List V} {us:List Value} (r:Vals xs us):xs.length=us.length:=Paired.length r
theorem Vals.get:∀ {xs:List V} {us:List Value} {i:Nat} {x:V},Vals xs us→xs[i]? = some x→∃ u,us[i]? = some u∧RelV x u
 | _,_,_,_, .nil,e=>by simp at e
 | _,_,0,_, .cons r _,e=>by simp at e;subst e;exact ⟨_,rfl,r⟩
 | _,_,i + 1,x, .cons _ t,e=>by
  obtain ⟨u,h1,h2⟩:=Vals.get (i:=i) (x:=x) t (by simpa using e)
  exact ⟨u,by simpa using h1,h2⟩
theorem Vals.set {x:V} {u:Value} (r:RelV x u):∀ {xs:List V} {us:List Value} (i:Nat),Vals xs us→Vals (xs.set i x) (us.set i u)
 | _,_,_, .nil => .nil
 | _,_,0, .cons _ t => .cons r t
 | _,_,i + 1, .cons q t => .cons q (Vals.set r i t)
theorem Vals.append:∀ {xs ys:List V} {us ws:List Value},Vals xs us→Vals ys ws→Vals (xs ++ ys) (us ++ ws)
 | _,_,_,_, .nil,s=>s
 | _,_,_,_, .cons r t,s => .cons r (Vals.append t s)
theorem Vals.take:∀ {xs:List V} {us:List Value} (n:Nat),Vals xs us→Vals (xs.take n) (us.take n)
 | _,_,0,_ => .nil
 | _,_,_ + 1, .nil => .nil
 | _,_,n + 1, .cons r t => .cons r (Vals.take n t)
theorem Vals.drop:∀ {xs:List V} {us:List Value} (n:Nat),Vals xs us→Vals (xs.drop n) (us.drop n)
 | _,_,0,r=>r
 | _,_,_ + 1, .nil => .nil
 | _,_,n + 1, .cons _ t=>Vals.drop n t
def RelO:Option V→Option Value→Prop
 | some v,some u=>RelV v u
 | none,none=>True
 | _,_=>False
def KV {κ:Type}:List (κ × V)→List (κ × Value)→Prop:=Paired fun (p:κ × V) (q:κ × Value)=>p.1=q.1∧RelV p.2 q.2
def kV:Key→V
 | .inl i => .int i
 | .inr x => .str x
inductive HO where
 | lst (xs:List V)
 | tup (xs:List V)
 | dK (kvs:List (Key × V)) | dT (kvs:List (List Key × V))
 | set (S:Int→Bool) (n:Nat)
 | ins (C dx:Addr) (fs:List (Str × V))
 | own (x:Addr)
 | xd (fs:List (Str × V))
 | met (f x:Addr)
 | rng (lo hi:Int)
 | frz (o:Obj) (u:HO)
 | tbl (ps:Array Value)
 | ext (φ:Heap→Prop)
abbrev Hp:=Addr→Option HO
def upd (H:Hp) (a:Addr) (o:HO):Hp:=fun b=>if b=a then some o else H b
theorem zaw {H:Hp} {a:Addr} {o:HO}:upd H a o a=some o:=by unfold upd;rw [if_pos rfl]
theorem zap {H:Hp} {a b:Addr} {o:HO} (h:b ≠ a):upd H a o b=H b:=by unfold upd;rw [if_neg h]
theorem zrq {H:Hp} {a b:Addr} {o u:HO} (h:H a=some o) (h':H b=some u) (d:o ≠ u):a ≠ b:=by
 intro e;subst e;rw [h] at h';exact d (Option.some.inj h')
theorem zaK {H:Hp} {a b:Addr} {o:HO} (h:H a=some o) (h':H b=none):a ≠ b:=by
 intro e;subst e;rw [h] at h';cases h'
section
variable (P:Program) (w:World)
def zdn (H:Hp) (h:Heap) (a:Addr):HO→Prop
 | .lst xs=>xs.length ≤ sizeLine∧∃ (its:List Value) (n:Nat),Vals xs its∧h.get? a=some { cls := .type "list",data := .seq its.toArray n }
 | .tup xs=>xs.length ≤ sizeLine∧∃ its:List Value,Vals xs its∧IsTup h a its.toArray
 | .dK kvs=>kvs.length ≤ sizeLine∧(a == sysModules)=false∧∃ vs,KV kvs vs∧h.DictOf (zb8 P w) a vs
 | .dT kvs=>kvs.length ≤ sizeLine∧(a == sysModules)=false∧∃ xs:List (List Key × Addr × Value),
   Paired (fun (p:List Key × V) (q:List Key × Addr × Value)=>p.1=q.1∧H q.2.1=some (.tup (p.1.map kV))∧RelV p.2 q.2.2) kvs xs ∧
   ∃ o es ep,h.get? a=some o∧o.ExactDict∧o.data = .dict es ep∧es.toList=xs.map (entryOfKey (tupleKind (zb8 P w)))∧(xs.map (·.1)).Nodup
 | .set S n=>h.SetOf (intKind P w) a S n
 | .ins C dx fs=>H dx=some (.own a)∧fs.length ≤ 1000∧dx ≠ a∧h.get? a=some (PySem.W.instObj C dx) ∧
   ∃ mA,h.Ns1 dx mA∧(∀ f,RelO (fs.lookup f) (mA f))∧PySem.Within mA (fs.map (·.1))
 | .own _=>∃ o,h.get? a=some o
 | .xd fs=>∃ mA,h.Ns1 a mA∧∀ f,RelO (fs.lookup f) (mA f)
 | .rng lo hi=>∃ t u v,h.get? a=some { cls := .type "range",data := .fields #[.int lo t, .int hi u, .int 1 v] }
 | .frz o u=>h.get? a=some o∧zdn H h a u
 | .tbl ps=>h.get? a=some { cls := .none,data := .fields ps }
 | .met f x=>h.get? a=some (PySem.W.methodObj (.ref f) (.ref x))
 | .ext φ=>φ h∧(∃ o,h.get? a=some o)∧∀ h1 h2:Heap,φ h1→(∀ o,h1.get? a=some o→h2.get? a=some o)→φ h2
def HOk (H:Hp) (h:Heap):Prop:=∀ a o,H a=some o→zdn P w H h a o
end
section
variable {P:Program} {w:World} {H H':Hp} {h h':Heap} {a:Addr} {o:HO}
theorem zdn.lt (x:zdn P w H h a o):a < h.objs.size:=by
 cases o with
 | lst xs=>obtain ⟨_,_,_,_,e⟩:=x;exact Heap.lt_size e
 | tup xs=>obtain ⟨_,_,_,p⟩:=x;exact p.lt
 | dK kvs=>obtain ⟨_,_,_,_,o,_,_,e,_⟩:=x;exact Heap.lt_size e
 | dT kvs=>obtain ⟨_,_,_,_,o,_,_,e,_⟩:=x;exact Heap.lt_size e
 | set S n=>obtain ⟨o,_,_,_,e,_⟩:=x;exact Heap.lt_size e
 | ins C dx fs=>obtain ⟨_,_,_,e,_⟩:=x;exact Heap.lt_size e
 | own y=>obtain ⟨_,e⟩:=x;exact Heap.lt_size e
 | xd fs=>obtain ⟨_,⟨_,_,_,e,_⟩,_⟩:=x;exact Heap.lt_size e
 | rng lo hi=>obtain ⟨_,_,_,e⟩:=x;exact Heap.lt_size e
 | frz ob u=>obtain ⟨e,_⟩:=x;exact Heap.lt_size e
 | tbl ps=>exact Heap.lt_size (show h.get? a=some _ from x)
 | met f y=>exact Heap.lt_size (show h.get? a=some _ from x)
 | ext φ=>obtain ⟨_,⟨_,e⟩,_⟩:=x;exact Heap.lt_size e
theorem Paired.mapP {α β:Type} {F G:α→β→Prop}:∀ {l₁:List α} {l₂:List β},Paired F l₁ l₂→(∀ a b,F a b→G a b)→Paired G l₁ l₂
 | _,_, .nil,_ => .nil
 | _,_, .cons r t,f => .cons (f _ _ r) (Paired.mapP t f)
theorem zdn.stay (x:zdn P w H h a o) (k:∀ b u,(b=a∨H b=some (.own a))→h.get? b=some u→h'.get? b=some u)
  (ho:∀ b,H b=some (.own a)→H' b=some (.own a)) (ht:∀ b xs,H b=some (.tup xs)→H' b=some (.tup xs)):zdn P w H' h' a o:=by
 induction o with
 | lst xs=>obtain ⟨z,its,n,r,e⟩:=x;exact ⟨z,its,n,r,k _ _ (.inl rfl) e⟩
 | tup xs=>obtain ⟨z,its,r,ob,e,c⟩:=x;exact ⟨z,its,r,ob,k _ _ (.inl rfl) e,c⟩
 | dK kvs=>obtain ⟨z,y,vs,r,ob,es,ep,e,c⟩:=x;exact ⟨z,y,vs,r,ob,es,ep,k _ _ (.inl rfl) e,c⟩
 | dT kvs =>
  obtain ⟨z,y,xs,r,ob,es,ep,e,c⟩:=x
  exact ⟨z,y,xs,Paired.mapP r fun p q z=>⟨z.1,ht _ _ z.2.1,z.2.2⟩,ob,es,ep,k _ _ (.inl rfl) e,c⟩
 | set S n=>obtain ⟨ob,es,ep,t,e,c⟩:=x;exact ⟨ob,es,ep,t,k _ _ (.inl rfl) e,c⟩
 | ins C dx fs =>
  obtain ⟨d,z,ne,e,mA,⟨od,es,ep,e2,c⟩,r⟩:=x
  exact ⟨ho _ d,z,ne,k _ _ (.inl rfl) e,mA,⟨od,es,ep,k _ _ (.inr d) e2,c⟩,r⟩
 | own y=>obtain ⟨ob,e⟩:=x;exact ⟨ob,k _ _ (.inl rfl) e⟩
 | xd fs=>obtain ⟨mA,⟨od,es,ep,e,c⟩,r⟩:=x;exact ⟨mA,⟨od,es,ep,k _ _ (.inl rfl) e,c⟩,r⟩
 | rng lo hi=>obtain ⟨t,u,v,e⟩:=x;exact ⟨t,u,v,k _ _ (.inl rfl) e⟩
 | frz ob u ih=>obtain ⟨e,q⟩:=x;exact ⟨k _ _ (.inl rfl) e,ih q⟩
 | tbl ps =>
  have e:h.get? a=some { cls := .none,data := .fields ps }:=x
  show h'.get? a=some { cls := .none,data := .fields ps }
  exact k a _ (.inl rfl) e
 | met f y =>
  have e:h.get? a=some (PySem.W.methodObj (.ref f) (.ref y)):=x
  show h'.get? a=some (PySem.W.methodObj (.ref f) (.ref y))
  exact k a _ (.inl rfl) e
 | ext φ=>obtain ⟨p,⟨o,e⟩,st⟩:=x;exact ⟨st _ _ p fun o q=>k _ _ (.inl rfl) q,⟨o,k _ _ (.inl rfl) e⟩,st⟩
theorem HOk.lt (x:HOk P w H h) (e:H a=some o):a < h.objs.size:=(x a o e).lt
theorem HOk.fresh (x:HOk P w H h) (e:h.objs.size ≤ a):H a=none:=by
 cases q:H a with
 | none=>rfl
 | some u=>exact absurd (Nat.lt_of_lt_of_le (x.lt q) e) (Nat.lt_irrefl _)
theorem HOk.kept (x:HOk P w H h) (k:∀ b u,h.get? b=some u→h'.get? b=some u):HOk P w H h':=fun a o e =>
 (x a o e).stay (fun b u _ q=>k b u q) (fun _ q=>q) fun _ _ q=>q
theorem HOk.laid (x:HOk P w H h) (k:∀ b u,h.get? b=some u→h'.get? b=some u) (hp:h.objs.size ≤ a) (new:zdn P w (upd H a o) h' a o):HOk P w (upd H a o) h':=fun b u e=>by
 have hn:=x.fresh hp
 by_cases hb:b=a
 ·subst hb;rw [zaw] at e;cases e;exact new
 ·rw [zap hb] at e
  exact (x b u e).stay (fun c v _ q=>k c v q) (fun c q=>by rw [zap (zaK q hn)];exact q) fun c xs q=>by rw [zap (zaK q hn)];exact q
end
def Rd (H:Hp) (a:Addr) (u:HO):Prop:=H a=some u∨∃ o,H a=some (.frz o u)
theorem Rd.of {H:Hp} {a:Addr} {u:HO} (h:H a=some u):Rd H a u := .inl h
theorem Rd.ok {P:Program} {w:World} {H:Hp} {h:Heap} {a:Addr} {u:HO} (r:Rd H a u) (x:HOk P w H h):zdn P w H h a u:=by
 rcases r with r | ⟨o,r⟩
 ·exact x a u r
 ·obtain ⟨_,q⟩:=x a _ r
  exact q
def Mut:Option HO→Prop
 | some (.lst _)=>True
 | some (.dK _)=>True
 | some (.dT _)=>True
 | some (.set _ _)=>True
 | some (.ins _ _ _)=>True
 | some (.ext _)=>True
 | _=>False
section
variable {P:Program} {w:World} {H:Hp} {h h':Heap} {x e:Addr} {o':HO}
theorem HOk.write (ok:HOk P w H h) (mu:Mut (H x)) (he:e=x∨H e=some (.own x)) (k:∀ b u,b ≠ e→h.get? b=some u→h'.get? b=some u) (heo:∃ u,h'.get? e=some u)
  (new:zdn P w (upd H x o') h' x o'):HOk P w (upd H x o') h':=fun b u q=>by
 have nown:∀ c y,H c=some (.own y)→c ≠ x:=fun c y r z=>by subst z;rw [r] at mu;exact mu
 have ntup:∀ c xs,H c=some (.tup xs)→c ≠ x:=fun c xs r z=>by subst z;rw [r] at mu;exact mu
 by_cases hb:b=x
 ·subst hb;rw [zaw] at q;cases q;exact new
 ·rw [zap hb] at q
  by_cases hbe:b=e
  ·have q':H b=some (.own x):=by
    rcases he with z | z
    ·exact absurd (hbe.trans z) hb
    ·rw [hbe];exact z
   rw [q] at q';cases q'
   obtain ⟨v,hv⟩:=heo
   exact ⟨v,by rw [hbe];exact hv⟩
  ·refine (ok b u q).stay (fun c v hc r=>k c v ?_ r) (fun c r=>by rw [zap (nown c b r)];exact r) fun c xs r=>by rw [zap (ntup c xs r)];exact r
   rcases hc with rfl | hc
   ·exact hbe
   ·rintro rfl
    rcases he with z | z
    ·exact nown c b hc z
    ·rw [hc] at z;cases z;exact hb rfl
end
structure Un (fs ex:List Addr) (H H':Hp) (h h':Heap):Prop where
 keep:∀ b o,h.get? b=some o→H b=none→b ∉ fs→b ∉ ex→h'.get? b=some o
 slot:∀ b o,h.get? b=some o→H b=none→b ∈ fs→b ∉ ex→∃ sl,h'.get? b=some { o with slots:=sl }
 free:∀ b o,h.get? b=some o→H b=none→b ∉ ex→H' b=none
 there:∀ b o,h.get? b=some o→b ∉ ex→∃ o',h'.get? b=some o'
 tups:∀ b xs,H b=some (.tup xs)→H' b=some (.tup xs)
 frzs:∀ b o u,H b=some (.frz o u)→H' b=some (.frz o u)
 tbls:∀ b ps,H b=some (.tbl ps)→∃ more,H' b=some (.tbl (ps ++ more))
section
variable {fs fs' ex ex':List Addr} {H H1 H2:Hp} {h h1 h2 h':Heap} {a x e:Addr} {o:HO}
theorem Un.any (u:Un fs ex H H1 h h1) {b:Addr} {ob:Obj} (q:h.get? b=some ob) (n:H b=none) (hx:b ∉ ex):∃ sl,h1.get? b=some { ob with slots:=sl }:=by
 by_cases hb:b ∈ fs
 ·exact u.slot b ob q n hb hx
 ·exact ⟨ob.slots,u.keep b ob q n hb hx⟩
theorem Un.trans (a:Un fs ex H H1 h h1) (b:Un fs ex H1 H2 h1 h2):Un fs ex H H2 h h2 where
 keep:=fun c ob q n hc hx=>b.keep c ob (a.keep c ob q n hc hx) (a.free c ob q n hx) hc hx
 slot:=fun c ob q n hc hx=>by
  obtain ⟨sl,e1⟩:=a.slot c ob q n hc hx
  obtain ⟨sl',e2⟩:=b.slot c _ e1 (a.free c ob q n hx) hc hx
  exact ⟨sl',e2⟩
 free:=fun c ob q n hx=>by
  obtain ⟨o',e1⟩:=a.there c ob q hx
  exact b.free c o' e1 (a.free c ob q n hx) hx
 there:=fun c ob q hx=>by
  obtain ⟨o',e1⟩:=a.there c ob q hx
  exact b.there c o' e1 hx
 tups:=fun c xs q=>b.tups c xs (a.tups c xs q)
 frzs:=fun c ob xs q=>b.frzs c ob xs (a.frzs c ob xs q)
 tbls:=fun c ps q=>by
  obtain ⟨m1,e1⟩:=a.tbls c ps q
  obtain ⟨m2,e2⟩:=b.tbls c _ e1
  exact ⟨m1 ++ m2,by rw [e2,Array.append_assoc]⟩
theorem Un.kept (k:∀ b u,h.get? b=some u→h'.get? b=some u):Un fs ex H H h h' :=
 ⟨fun b ob q _ _ _=>k b ob q,fun b ob q _ _ _=>⟨ob.slots,k b ob q⟩,fun _ _ _ n _=>n,fun b ob q _=>⟨ob,k b ob q⟩,fun _ _ q=>q,fun _ _ _ q=>q,fun _ ps q=>⟨#[],by rw [q];simp⟩⟩
theorem Un.refl:Un fs ex H H h h:=Un.kept fun _ _ q=>q
theorem Un.laid (k:∀ b u,h.get? b=some u→h'.get? b=some u) (hp:h.objs.size ≤ a) (hn:H a=none):Un fs ex H (upd H a o) h h' where
 keep:=fun b u q _ _ _=>k b u q
 slot:=fun b u q _ _ _=>⟨u.slots,k b u q⟩
 free:=fun b u q n _=>by rw [zap (Nat.ne_of_lt (Nat.lt_of_lt_of_le (Heap.lt_size q) hp))];exact n
 there:=fun b u q _=>⟨u,k b u q⟩
 tups:=fun b xs q=>by rw [zap (zaK q hn)];exact q
 frzs:=fun b u xs q=>by rw [zap (zaK q hn)];exact q
 tbls:=fun b ps q=>⟨#[],by rw [zap (zaK q hn),q];simp⟩
theorem Un.write (mu:Mut (H x)) (he:e=x∨H e=some (.own x)) (k:∀ b u,b ≠ e→h.get? b=some u→h'.get? b=some u) (heo:∃ u,h'.get? e=some u):Un fs ex H (upd H x o) h h':=by
 have hx:∀ b,H b=none→b ≠ x:=fun b n z=>by subst z;rw [n] at mu;exact mu
 have hb:∀ b,H b=none→b ≠ e:=fun b n z=>by
  subst z
  rcases he with r | r
  ·exact hx b n r
  ·rw [n] at r;cases r
 have hm:∀ b u,H b=some u→¬ Mut (some u)→b ≠ x:=fun b u q nm z=>by subst z;rw [q] at mu;exact nm mu
 refine ⟨fun b u q n _ _=>k b u (hb b n) q,fun b u q n _ _=>⟨u.slots,k b u (hb b n) q⟩,fun b u q n _=>by rw [zap (hx b n)];exact n,fun b u q _=>?_,
  fun b xs q=>by rw [zap (hm b _ q fun z=>z)];exact q,fun b u xs q=>by rw [zap (hm b _ q fun z=>z)];exact q,fun b ps q=>⟨#[],by rw [zap (hm b _ q fun z=>z),q];simp⟩⟩
 by_cases hbe:b=e
 ·subst hbe;exact heo
 ·exact ⟨u,k b u hbe q⟩
theorem Un.mono (u:Un fs ex H H1 h h1) (hs:∀ b ∈ fs,b ∈ fs') (hx:∀ b ∈ ex,b ∈ ex'):Un fs' ex' H H1 h h1 :=
 ⟨fun b ob q n hb he=>u.keep b ob q n (fun z=>hb (hs b z)) fun z=>he (hx b z),fun _ _ q n _ he=>u.any q n fun z=>he (hx _ z),fun b ob q n he=>u.free b ob q n fun z=>he (hx b z),fun b ob q he=>u.there b ob q fun z=>he (hx b z),u.tups,u.frzs,u.tbls⟩
end
def trk (h:Heap) (H:Hp):List Addr:=(List.range h.objs.size).filter fun a=>(H a).isSome
def hidT (h:Heap) (H:Hp):Heap:=PySem.W.hideAll h (trk h H)
theorem znq (h:Heap) (H:Hp):(hidT h H).objs.size=h.objs.size:=PySem.W.hideAll_size _ _
theorem zo5 {h:Heap} {H:Hp} {b:Addr} {o:Obj} (e:h.get? b=some o) (n:H b=none):(hidT h H).get? b=some o :=
 PySem.W.hideAll_get _ e fun hm=>by
  have q:(H b).isSome=true:=(List.mem_filter.mp hm).2
  rw [n] at q;simp at q
theorem zqO {h:Heap} {H:Hp} {b:Addr} {o:Obj} (e:(hidT h H).get? b=some o):h.get? b=some o∧H b=none:=by
 have e':h.get? b=some o:=PySem.W.of_hideAll (trk h H) e
 refine ⟨e',?_⟩
 cases q:H b with
 | none=>rfl
 | some x =>
  have hm:b ∈ trk h H:=List.mem_filter.mpr ⟨List.mem_range.mpr (Heap.lt_size e'),by simp [q]⟩
  have z:(hidT h H).get? b=none:=PySem.W.hideAll_none (trk h H) hm
  rw [z] at e;cases e
def zq2 (g h:Heap) (L:Addr):List (Addr × Obj):=(List.range h.objs.size).filterMap fun a=>if a=L∨(g.get? a).isSome=true then none else (h.get? a).map fun o=>(a,o)
def rest (g h:Heap) (L d:Addr):List (Addr × Obj):=(zq2 g h L).filter fun p=>decide (p.1 ≠ d)
end L2
namespace L2
open PySem PySem.Spec PyProof.Rows
structure Mod (K:PySem.W.Frag) (mg:Str→Option Value) (base:Heap):Prop where
 kin:K.In base
 glob:base.Ns mainGlobals mg
 blt:∃ mb,base.Ns builtinsNs mb∧∀ x:Str,x ≠ "__name__"→mb x=bootBuiltins x
 nolimit:base.NoLimit
structure Cx where
 prog:Program
 w:World
 K:PySem.W.Frag
 mg:Str→Option Value
 base:Heap
 A:Around
 N:List Str
 s₀:Shared
 H₀:Hp
 env:Env
 outer:List Env
 stack:List Env
 ex:List Addr
 fn:Str→Bool
 calm:Bool
 pn:List (Addr × Obj)
 xe:Value→Shared→Prop
def frs (l:List Env):List Addr:=l.filterMap (·.frame)
abbrev Cx.fs (X:Cx):List Addr:=frs X.outer
def Vis (sc:Scope) (x:Str):Prop:=sc.names.lookup x=some .local∨sc.names.lookup x=some .cell∨sc.names.lookup x=some .free
def Loc (sc:Scope) (x:Str):Prop:=sc.names.lookup x=some .local∨sc.names.lookup x=some .cell
def Look (env:Env) (h:Heap) (m:Str→Option Value) (x:Str) (u:Value):Prop :=
 (env.kindOf x=some .local∧m x=some u)∨((env.kindOf x=some .cell∨env.kindOf x=some .free)∧∃ c,env.cells.lookup x=some c∧h.IsCell c (some u))
structure Cx.Ok (X:Cx):Prop where
 mod:Mod X.K X.mg X.base
 kind:X.env.scope.kind = .function
 glob:X.env.globals=mainGlobals
 blt:X.env.builtins=builtinsNs
 above:X.s₀.heap.objs.size ≤ X.env.locals
 inj:∀ x y c,X.env.cells.lookup x=some c→X.env.cells.lookup y=some c→x=y
 has:∀ x,(X.env.kindOf x=some .cell∨X.env.kindOf x=some .free)→∃ c,X.env.cells.lookup x=some c
 cab:∀ x c,X.fn x=true→X.env.cells.lookup x=some c→X.s₀.heap.objs.size ≤ c
 hd:X.calm=true→X.A.handled=none
 frames:X.A.frames=some X.stack
 stk:X.stack=X.outer∨(X.stack=X.env :: X.outer∧X.env.frame=some X.env.locals)
 exf:∀ b ∈ X.ex,b ≠ X.env.locals∧∀ x c,X.env.cells.lookup x=some c→c ≠ b
 bs:∀ b o,X.base.get? b=some o→X.s₀.heap.get? b=some o∧X.H₀ b=none
 bsz:X.base.objs.size ≤ X.s₀.heap.objs.size
 noex:∀ b o,X.base.get? b=some o→b ∉ X.ex
 exfs:∀ b ∈ X.ex,b ∉ X.fs
 funs:X.s₀.heap.FunFrames X.base X.outer
 frf:∀ b ∈ X.fs,X.H₀ b=none
structure Inv (X:Cx) (pins:List (Addr × Obj)) (σ:List (Option V)) (H:Hp) (s:Shared):Prop where
 ok:X.Ok
 os:s.os=X.s₀.os
 bare:AllBare s.gens
 base:Un X.fs X.ex X.H₀ H X.s₀.heap s.heap
 loc:∃ m,s.heap.Ns X.env.locals m∧∀ (i:Nat) (x:Str) (v:V),X.N[i]? = some x→σ[i]? = some (some v)→Vis X.env.scope x→∃ u,RelV v u∧Look X.env s.heap m x u
 cell:∀ x c,X.env.cells.lookup x=some c→∃ v,s.heap.IsCell c v
 free:H X.env.locals=none
 freeC:∀ x c,X.env.cells.lookup x=some c→H c=none
 pin:∀ p ∈ X.pn ++ pins,s.heap.get? p.1=some p.2∧H p.1=none∧p.1 ≠ X.env.locals∧p.1 ∉ X.fs∧∀ v,p.2.data ≠ .cell v
 hok:HOk X.prog X.w H s.heap
 len:σ.length=X.N.length
section
variable {X:Cx} {pins:List (Addr × Obj)} {σ:List (Option V)} {H H':Hp} {s:Shared} {h':Heap}
theorem Cx.Ok.nofr (ok:X.Ok) {b:Addr} {o:Obj} (e:X.base.get? b=some o):b ∉ X.fs:=fun hb=>by
 have:=(ok.funs.mem hb).1
 rw [e] at this;cases this
theorem Inv.bs (I:Inv X pins σ H s):∀ b o,X.base.get? b=some o→s.heap.get? b=some o∧H b=none:=fun b o e =>
 ⟨I.base.keep b o (I.ok.bs b o e).1 (I.ok.bs b o e).2 (I.ok.nofr e) (I.ok.noex b o e),I.base.free b o (I.ok.bs b o e).1 (I.ok.bs b o e).2 (I.ok.noex b o e)⟩
theorem Inv.bk (I:Inv X pins σ H s):∀ b o,X.base.get? b=some o→s.heap.get? b=some o:=fun b o e=>(I.bs b o e).1
theorem Inv.mod (I:Inv X pins σ H s):Mod X.K X.mg X.base:=I.ok.mod
theorem Inv.kIn (I:Inv X pins σ H s):X.K.In s.heap:=I.ok.mod.kin.keeps I.bk
theorem Inv.nolimit (I:Inv X pins σ H s):s.heap.NoLimit:=I.ok.mod.nolimit.keeps I.bk
theorem Inv.lt (I:Inv X pins σ H s):X.env.locals < s.heap.objs.size:=let ⟨_,hn,_⟩:=I.loc;hn.lt
theorem Inv.sz (I:Inv X pins σ H s):X.s₀.heap.objs.size ≤ s.heap.objs.size:=Nat.le_trans I.ok.above (Nat.le_of_lt I.lt)
theorem Inv.nofs (I:Inv X pins σ H s) {a:Addr} (h:s.heap.objs.size ≤ a):a ∉ X.fs:=fun hb=>by
 obtain ⟨_,o,ho,_⟩:=I.ok.funs.mem hb
 exact absurd (Nat.lt_of_lt_of_le (Heap.lt_size ho) (Nat.le_trans I.sz h)) (Nat.lt_irrefl _)
theorem Inv.cne (I:Inv X pins σ H s):∀ x c,X.env.cells.lookup x=some c→c ≠ X.env.locals:=fun x c e z=>by
 obtain ⟨v,o,ho,hd⟩:=I.cell x c e
 obtain ⟨m,⟨o',es,ep,ho',hd',_⟩,_⟩:=I.loc
 rw [z,ho'] at ho;cases ho;rw [hd'] at hd;cases hd
theorem Inv.funs (I:Inv X pins σ H s):s.heap.FunFrames X.base X.outer:=by
 have all:∀ (l:List Env),(∀ b ∈ frs l,b ∈ X.fs)→X.s₀.heap.FunFrames X.base l→s.heap.FunFrames X.base l:=by
  intro l
  induction l with
  | nil=>intro _ _;trivial
  | cons env r ih =>
   intro hs hl
   obtain ⟨hk,⟨L,o,hf,hn,ho,hd⟩,hr⟩:=hl
   have hL:L ∈ X.fs:=hs L (by unfold frs;rw [List.filterMap_cons,hf];exact List.mem_cons_self)
   obtain ⟨sl,e⟩:=I.base.slot L o ho (I.ok.frf L hL) hL fun z=>I.ok.exfs L z hL
   exact ⟨hk,⟨L,_,hf,hn,e,hd⟩,ih (fun b hb=>hs b (by unfold frs;rw [List.filterMap_cons,hf];exact List.mem_cons_of_mem _ hb)) hr⟩
 exact all X.outer (fun _ hb=>hb) I.ok.funs
theorem Inv.stack (I:Inv X pins σ H s):s.heap.FunFrames X.base X.stack:=by
 rcases I.ok.stk with e | ⟨e,hf⟩
 ·rw [e];exact I.funs
 ·rw [e]
  obtain ⟨m,hn,_⟩:=I.loc
  refine .cons (by rw [I.ok.kind];decide) hf hn ?_ I.funs
  exact Heap.get?_none_of_le (Nat.le_trans I.ok.bsz I.ok.above)
theorem Inv.zin (I:Inv X pins σ H s):∀ b ∈ frs X.stack,b ∈ X.env.locals :: X.fs:=fun b hb=>by
 rcases I.ok.stk with e | ⟨e,hf⟩
 ·rw [e] at hb;exact List.mem_cons_of_mem _ hb
 ·rw [e] at hb
  unfold frs at hb
  rw [List.filterMap_cons,hf] at hb
  exact hb
theorem Inv.zk6 (I:Inv X pins σ H s):∀ b ∈ frs X.stack,H b=none:=fun b hb=>by
 rcases List.mem_cons.mp (I.zin b hb) with e | hb
 ·rw [e];exact I.free
 ·obtain ⟨_,o,ho,_⟩:=I.ok.funs.mem hb
  exact I.base.free b o ho (I.ok.frf b hb) fun z=>I.ok.exfs b z hb
theorem Inv.step {g':Array GenState} {t':Nat} {d':Drawn} {ch:List Addr} (I:Inv X pins σ H s)
  (hch:∀ b ∈ ch,(b ∈ X.ex∨X.s₀.heap.objs.size ≤ b)∧b ≠ X.env.locals∧(∀ x c,X.env.cells.lookup x=some c→c ≠ b)∧∀ p ∈ X.pn ++ pins,p.1 ≠ b)
  (keep:∀ b o,b ≠ X.env.locals→b ∉ X.fs→b ∉ ch→s.heap.get? b=some o→H b=none→h'.get? b=some o)
  (slot:∀ b o,b ≠ X.env.locals→b ∈ X.fs→b ∉ ch→s.heap.get? b=some o→H b=none→∃ sl,h'.get? b=some { o with slots:=sl }) (free:∀ b o,b ∉ ch→s.heap.get? b=some o→H b=none→H' b=none)
  (there:∀ b o,b ∉ ch→s.heap.get? b=some o→∃ o',h'.get? b=some o')
  (tups:∀ b xs,H b=some (.tup xs)→H' b=some (.tup xs)) (frzs:∀ b o u,H b=some (.frz o u)→H' b=some (.frz o u)) (tbls:∀ b ps,H b=some (.tbl ps)→∃ more,H' b=some (.tbl (ps ++ more)))
  (ns:∀ m,s.heap.Ns X.env.locals m→h'.Ns X.env.locals m) (hok:HOk X.prog X.w H' h') (hg:AllBare g') :
  Inv X pins σ H' { s with heap:=h',gens:=g',drawn:=d',toks:=t' }:=by
 have neL:∀ b o,X.s₀.heap.get? b=some o→b ≠ X.env.locals:=fun b o e=>Nat.ne_of_lt (Nat.lt_of_lt_of_le (Heap.lt_size e) I.ok.above)
 have neC:∀ b o,X.s₀.heap.get? b=some o→b ∉ X.ex→b ∉ ch:=fun b o e hx hb=>by
  rcases (hch b hb).1 with z | z
  ·exact hx z
  ·exact absurd (Nat.lt_of_lt_of_le (Heap.lt_size e) z) (Nat.lt_irrefl _)
 have cellK:∀ x c,X.env.cells.lookup x=some c→∀ v,s.heap.IsCell c v→h'.IsCell c v:=fun x c e v ⟨o,ho,hd⟩=>by
  have nch:c ∉ ch:=fun z=>(hch c z).2.2.1 x c e rfl
  by_cases hc:c ∈ X.fs
  ·obtain ⟨sl,q⟩:=slot c o (I.cne x c e) hc nch ho (I.freeC x c e)
   exact ⟨_,q,hd⟩
  ·exact ⟨o,keep c o (I.cne x c e) hc nch ho (I.freeC x c e),hd⟩
 refine ⟨I.ok,I.os,hg,⟨fun b o e n hb hx=>?_,fun b o e n hb hx=>?_,fun b o e n hx=>?_,fun b o e hx=>?_,fun b xs e=>tups b xs (I.base.tups b xs e),fun b o xs e=>frzs b o xs (I.base.frzs b o xs e),fun b ps e=>?_⟩,?_,fun x c e=>?_,?_,fun x c e=>?_,fun p hp=>?_,hok,I.len⟩
 ·exact keep b o (neL b o e) hb (neC b o e hx) (I.base.keep b o e n hb hx) (I.base.free b o e n hx)
 ·obtain ⟨sl,e1⟩:=I.base.slot b o e n hb hx
  obtain ⟨sl',e2⟩:=slot b _ (neL b o e) hb (neC b o e hx) e1 (I.base.free b o e n hx)
  exact ⟨sl',e2⟩
 ·obtain ⟨o',e1⟩:=I.base.there b o e hx
  exact free b o' (neC b o e hx) e1 (I.base.free b o e n hx)
 ·obtain ⟨o',e1⟩:=I.base.there b o e hx
  exact there b o' (neC b o e hx) e1
 ·obtain ⟨m1,e1⟩:=I.base.tbls b ps e
  obtain ⟨m2,e2⟩:=tbls b _ e1
  exact ⟨m1 ++ m2,by rw [e2,Array.append_assoc]⟩
 ·obtain ⟨m,hn,hl⟩:=I.loc
  refine ⟨m,ns m hn,fun i x v e1 e2 e3=>?_⟩
  obtain ⟨u,r,l⟩:=hl i x v e1 e2 e3
  refine ⟨u,r,?_⟩
  rcases l with l | ⟨k,c,e,z⟩
  ·exact .inl l
  ·exact .inr ⟨k,c,e,cellK x c e _ z⟩
 ·obtain ⟨v,z⟩:=I.cell x c e
  exact ⟨v,cellK x c e v z⟩
 ·obtain ⟨m,⟨o,_,_,ho,_⟩,_⟩:=I.loc
  exact free _ o (fun z=>(hch _ z).2.1 rfl) ho I.free
 ·obtain ⟨v,o,ho,hd⟩:=I.cell x c e
  exact free c o (fun z=>(hch c z).2.2.1 x c e rfl) ho (I.freeC x c e)
 ·obtain ⟨e,n,ne,nf,d⟩:=I.pin p hp
  have nch:p.1 ∉ ch:=fun z=>(hch p.1 z).2.2.2 p hp rfl
  exact ⟨keep p.1 p.2 ne nf nch e n,free p.1 p.2 nch e n,ne,nf,d⟩
theorem Inv.un {t':Nat} (I:Inv X pins σ H s) (u:Un X.fs [] H H' s.heap h') (hok:HOk X.prog X.w H' h'):Inv X pins σ H' { s with heap:=h',toks:=t' }:=by
 obtain ⟨m,⟨o,es,ep,ho,r⟩,_⟩:=id I.loc
 obtain ⟨sl,hL⟩:=u.any ho I.free (by simp)
 exact I.step (g':=s.gens) (d':=s.drawn) (ch:=[]) (fun _ z=>nomatch z) (fun b o _ hb _ e n=>u.keep b o e n hb (by simp)) (fun b o _ hb _ e n=>u.slot b o e n hb (by simp)) (fun b o _ e n=>u.free b o e n (by simp)) (fun b o _ e=>u.there b o e (by simp)) u.tups u.frzs u.tbls (fun m' hm=>by
  obtain ⟨o',es',ep',ho',r'⟩:=hm
  rw [ho] at ho';cases ho'
  exact ⟨_,es',ep',hL,r'⟩) hok I.bare
theorem Inv.call {g':Array GenState} {t':Nat} {d':Drawn} {ch:List Addr} (I:Inv X pins σ H s) (u:Un (frs X.stack) ch H H' s.heap h') (hok:HOk X.prog X.w H' h') (hg:AllBare g')
  (hch:∀ b ∈ ch,(b ∈ X.ex∨X.s₀.heap.objs.size ≤ b)∧b ≠ X.env.locals∧(∀ x c,X.env.cells.lookup x=some c→c ≠ b)∧∀ p ∈ X.pn ++ pins,p.1 ≠ b) :
  Inv X pins σ H' { s with heap:=h',gens:=g',drawn:=d',toks:=t' }:=by
 obtain ⟨m,⟨o,es,ep,ho,r⟩,_⟩:=id I.loc
 obtain ⟨sl,hL⟩:=u.any ho I.free fun z=>(hch _ z).2.1 rfl
 exact I.step (ch:=ch) hch (fun b o hL hb hc e n=>u.keep b o e n (fun z=>(List.mem_cons.mp (I.zin b z)).elim hL hb) hc) (fun b o _ _ hc e n=>u.any e n hc) (fun b o hc e n=>u.free b o e n hc) (fun b o hc e=>u.there b o e hc) u.tups u.frzs u.tbls (fun m' hm=>by
  obtain ⟨o',es',ep',ho',r'⟩:=hm
  rw [ho] at ho';cases ho'
  exact ⟨_,es',ep',hL,r'⟩) hok hg
theorem Inv.turned {t':Nat} {it:Addr} (I:Inv X pins σ H s) (k:∀ b o,b ≠ it→s.heap.get? b=some o→h'.get? b=some o) (hn:H it=none) (hL:it ≠ X.env.locals)
  (h1:it ∈ X.ex∨X.s₀.heap.objs.size ≤ it) (h2:∀ x c,X.env.cells.lookup x=some c→c ≠ it) (h3:∀ p ∈ X.pn ++ pins,p.1 ≠ it):Inv X pins σ H { s with heap:=h',toks:=t' }:=by
 have nit:∀ b u,H b=some u→b ≠ it:=fun b u e z=>by rw [z,hn] at e;cases e
 refine I.step (g':=s.gens) (d':=s.drawn) (ch:=[it]) (fun b hb=>?_) (fun b o _ _ hc e _=>k b o (fun z=>hc (by simp [z])) e) (fun b o _ _ hc e _=>⟨o.slots,k b o (fun z=>hc (by simp [z])) e⟩) (fun _ _ _ _ n=>n)
  (fun b o hc e=>⟨o,k b o (fun z=>hc (by simp [z])) e⟩) (fun _ _ e=>e) (fun _ _ _ e=>e) (fun b ps e=>⟨#[],by rw [e];simp⟩) (fun m hm=>?_) (fun b u e=>?_) I.bare
 ·have e:b=it:=by simpa using hb
  subst e
  exact ⟨h1,hL,h2,h3⟩
 ·obtain ⟨o,es,ep,ho,r⟩:=hm
  exact ⟨o,es,ep,k _ o (Ne.symm hL) ho,r⟩
 ·refine (I.hok b u e).stay (fun c v hc q=>k c v ?_ q) (fun _ q=>q) fun _ _ q=>q
  rcases hc with z | z
  ·rw [z];exact nit b u e
  ·exact nit c _ z
theorem Inv.tok (I:Inv X pins σ H s) (t:Nat):Inv X pins σ H { s with toks:=t }:=I.un (h':=s.heap) (t':=t) Un.refl I.hok
theorem Inv.kept {t':Nat} (I:Inv X pins σ H s) (k:∀ b u,s.heap.get? b=some u→h'.get? b=some u):Inv X pins σ H { s with heap:=h',toks:=t' }:=I.un (Un.kept k) (I.hok.kept k)
theorem Inv.laid {a:Addr} {o:HO} {t':Nat} (I:Inv X pins σ H s) (k:∀ b u,s.heap.get? b=some u→h'.get? b=some u) (hp:s.heap.objs.size ≤ a) (new:zdn X.prog X.w (upd H a o) h' a o) :
  Inv X pins σ (upd H a o) { s with heap:=h',toks:=t' }:=I.un (Un.laid k hp (I.hok.fresh hp)) (I.hok.laid k hp new)
theorem Inv.write {x e:Addr} {o:HO} {t':Nat} (I:Inv X pins σ H s) (mu:Mut (H x)) (he:e=x∨H e=some (.own x)) (k:∀ b u,b ≠ e→s.heap.get? b=some u→h'.get? b=some u) (heo:∃ u,h'.get? e=some u)
  (new:zdn X.prog X.w (upd H x o) h' x o):Inv X pins σ (upd H x o) { s with heap:=h',toks:=t' }:=I.un (Un.write mu he k heo) (I.hok.write mu he k heo new)
theorem Inv.zkC {pins':List (Addr × Obj)} (I:Inv X pins σ H s) (h:∀ p ∈ pins',s.heap.get? p.1=some p.2∧H p.1=none∧p.1 ≠ X.env.locals∧p.1 ∉ X.fs∧∀ v,p.2.data ≠ .cell v):Inv X pins' σ H s :=
 ⟨I.ok,I.os,I.bare,I.base,I.loc,I.cell,I.free,I.freeC,fun p hp=>(List.mem_append.mp hp).elim (fun z=>I.pin p (List.mem_append_left _ z)) (h p),I.hok,I.len⟩
theorem zi0 {N:List Str} (hN:N.Nodup) {i j:Nat} {x:Str} (a:N[i]? = some x) (b:N[j]? = some x):i=j:=by
 obtain ⟨h1,e1⟩:=List.getElem?_eq_some_iff.mp a
 obtain ⟨h2,e2⟩:=List.getElem?_eq_some_iff.mp b
 exact (List.getElem_inj hN).mp (e1.trans e2.symm)
theorem znw {M:Model} {A:Around} {E:Value→Shared→Prop} {i:Nat} {x:Str} {v:V} {u:Value} {Q:Unit→Shared→Prop} (I:Inv X pins σ H s) (hN:X.N.Nodup) (hi:X.N[i]? = some x) (hx:Loc X.env.scope x) (r:RelV v u)
  (h:∀ s',Inv X pins (σ.set i (some v)) H s'→(∃ a,Heap.SameBut a s.heap s'.heap∧(a=X.env.locals∨X.env.cells.lookup x=some a))→Q () s') (hf:X.fn x=true∨X.env.scope.names.lookup x=some .local:=by first | exact .inl rfl | exact .inr rfl | assumption):wpAny M A (storeName X.env x u) Q E s:=by
 obtain ⟨m,hn,hl⟩:=id I.loc
 have hcls:(X.env.scope.kind == .class || (X.env.scope.kind == .module && X.env.locals != X.env.globals))=false:=by rw [I.ok.kind];rfl
 have hiσ:i < σ.length:=by rw [I.len];exact (List.getElem?_eq_some_iff.mp hi).1
 have cne:=I.cne
 have tracked:∀ {a:Addr} {h':Heap},(∃ o,s.heap.get? a=some o∧H a=none)→Heap.SameBut a s.heap h'→HOk X.prog X.w H h':=fun {a h'} ha hs b ob e=>by
  obtain ⟨_,_,hfree⟩:=ha
  refine (I.hok b ob e).stay (fun c w' hc q=>(hs.2 c ?_).trans q) (fun _ q=>q) fun _ _ q=>q
  rintro rfl
  rcases hc with rfl | hc
  ·rw [hfree] at e;cases e
  ·rw [hfree] at hc;cases hc
 rcases hx with hk | hk
 ·refine wpAny_storeName_local hk hn (fun h' hn' hs=>?_) hcls
  obtain ⟨oL,_,_,hoL,_⟩:=id hn
  refine h _ ⟨I.ok,I.os,I.bare,⟨fun b o e n hb hx=>?_,fun b o e n hb hx=>?_,I.base.free,fun b o e hx=>?_,I.base.tups,I.base.frzs,I.base.tbls⟩,⟨_,hn',fun j y v' e1 e2 e3=>?_⟩,fun y c e=>?_,I.free,I.freeC,fun p hp=>?_,tracked ⟨oL,hoL,I.free⟩ hs,by simpa using I.len⟩ ⟨_,hs, .inl rfl⟩
  ·exact (hs.2 b (Nat.ne_of_lt (Nat.lt_of_lt_of_le (Heap.lt_size e) I.ok.above))).trans (I.base.keep b o e n hb hx)
  ·obtain ⟨sl,e1⟩:=I.base.slot b o e n hb hx
   exact ⟨sl,(hs.2 b (Nat.ne_of_lt (Nat.lt_of_lt_of_le (Heap.lt_size e) I.ok.above))).trans e1⟩
  ·obtain ⟨o',e1⟩:=I.base.there b o e hx
   exact ⟨o',(hs.2 b (Nat.ne_of_lt (Nat.lt_of_lt_of_le (Heap.lt_size e) I.ok.above))).trans e1⟩
  ·by_cases hj:j=i
   ·subst hj
    rw [hi] at e1;cases e1
    rw [List.getElem?_set_self hiσ] at e2
    cases e2
    exact ⟨u,r, .inl ⟨hk,by simp⟩⟩
   ·rw [List.getElem?_set_ne (Ne.symm hj)] at e2
    obtain ⟨u',r',q⟩:=hl j y v' e1 e2 e3
    refine ⟨u',r',?_⟩
    rcases q with ⟨k,e⟩ | ⟨k,c,e,z⟩
    ·refine .inl ⟨k,?_⟩
     have:y ≠ x:=fun e=>hj (zi0 hN e1 (e ▸ hi))
     simp [this,e]
    ·exact .inr ⟨k,c,e,z.sameBut hs (cne y c e)⟩
  ·obtain ⟨w',z⟩:=I.cell y c e
   exact ⟨w',z.sameBut hs (cne y c e)⟩
  ·obtain ⟨e,n,ne,nf,d⟩:=I.pin p hp
   exact ⟨(hs.2 p.1 ne).trans e,n,ne,nf,d⟩
 ·have hfn:X.fn x=true:=by
   rcases hf with z | z
   ·exact z
   ·rw [z] at hk;cases hk
  obtain ⟨c,hc⟩:=I.ok.has x (.inl hk)
  obtain ⟨w',z⟩:=I.cell x c hc
  refine wpAny_storeName_cell I.ok.kind hk hc z (fun h' hc' hs=>?_)
  obtain ⟨oc,hoc,hocd⟩:=id z
  refine h { s with heap:=h' } ⟨I.ok,I.os,I.bare,⟨fun b o e n hb hx=>?_,fun b o e n hb hx=>?_,I.base.free,fun b o e hx=>?_,I.base.tups,I.base.frzs,I.base.tbls⟩,⟨m,hn.sameBut hs (Ne.symm (cne x c hc)),fun j y v' e1 e2 e3=>?_⟩,fun y c' e=>?_,I.free,I.freeC,fun p hp=>?_,tracked ⟨oc,hoc,I.freeC x c hc⟩ hs,by simpa using I.len⟩ ⟨c,hs, .inr hc⟩
  ·exact (hs.2 b (Nat.ne_of_lt (Nat.lt_of_lt_of_le (Heap.lt_size e) (I.ok.cab x c hfn hc)))).trans (I.base.keep b o e n hb hx)
  ·obtain ⟨sl,e1⟩:=I.base.slot b o e n hb hx
   exact ⟨sl,(hs.2 b (Nat.ne_of_lt (Nat.lt_of_lt_of_le (Heap.lt_size e) (I.ok.cab x c hfn hc)))).trans e1⟩
  ·obtain ⟨o',e1⟩:=I.base.there b o e hx
   exact ⟨o',(hs.2 b (Nat.ne_of_lt (Nat.lt_of_lt_of_le (Heap.lt_size e) (I.ok.cab x c hfn hc)))).trans e1⟩
  ·by_cases hj:j=i
   ·subst hj
    rw [hi] at e1;cases e1
    rw [List.getElem?_set_self hiσ] at e2
    cases e2
    exact ⟨u,r, .inr ⟨.inl hk,c,hc,hc'⟩⟩
   ·rw [List.getElem?_set_ne (Ne.symm hj)] at e2
    obtain ⟨u',r',q⟩:=hl j y v' e1 e2 e3
    refine ⟨u',r',?_⟩
    rcases q with q | ⟨k,c',e,z'⟩
    ·exact .inl q
    ·refine .inr ⟨k,c',e,z'.sameBut hs ?_⟩
     rintro rfl
     exact hj (zi0 hN e1 (I.ok.inj _ _ _ e hc ▸ hi))
  ·by_cases hcc:c'=c
   ·subst hcc;exact ⟨_,hc'⟩
   ·obtain ⟨w2,z2⟩:=I.cell y c' e
    exact ⟨w2,z2.sameBut hs hcc⟩
  ·obtain ⟨e,n,ne,nf,d⟩:=I.pin p hp
   refine ⟨(hs.2 p.1 ?_).trans e,n,ne,nf,d⟩
   intro q
   rw [q,hoc] at e
   have q':oc=p.2:=Option.some.inj e
   exact d w' (by rw [← q'];exact hocd)
theorem zg2 {M:Model} {A:Around} {E:Value→Shared→Prop} {i:Nat} {x:Str} {v:V} {u:Value} {Q:Unit→Shared→Prop} (I:Inv X pins σ H s) (hN:X.N.Nodup) (hi:X.N[i]? = some x) (hx:Loc X.env.scope x) (r:RelV v u)
  (h:∀ s',Inv X pins (σ.set i (some v)) H s'→Q () s') (hf:X.fn x=true∨X.env.scope.names.lookup x=some .local:=by first | exact .inl rfl | exact .inr rfl | assumption):wpAny M A (storeName X.env x u) Q E s :=
 znw I hN hi hx r (fun s' I' _=>h s' I') hf
theorem Inv.zoR {s':Shared} {ch:List Addr} (I:Inv X pins σ H s) (ho:s'.os=s.os) (u:Un (frs X.stack) ch H H' s.heap s'.heap) (hok:HOk X.prog X.w H' s'.heap) (hg:AllBare s'.gens)
  (hch:∀ b ∈ ch,(b ∈ X.ex∨X.s₀.heap.objs.size ≤ b)∧b ≠ X.env.locals∧(∀ x c,X.env.cells.lookup x=some c→c ≠ b)∧∀ p ∈ X.pn ++ pins,p.1 ≠ b):Inv X pins σ H' s':=by
 obtain ⟨h',g',d',t',o'⟩:=s'
 have e:o'=s.os:=ho
 subst e
 exact I.call (g':=g') (t':=t') (d':=d') u hok hg hch
end
abbrev XK:=Value→Option Addr→Hp→Prop
abbrev St:=List (Option V)
abbrev VK:=V→Hp→Prop
abbrev TE:=St→Hp→VK→Prop
abbrev TT:=St→Hp→(Bool→Hp→Prop)→Prop
abbrev TA:=St→Hp→(List V→Hp→Prop)→Prop
structure Ends where
 nx:St→Hp→Prop
 rt:VK
 bk:St→Hp→Prop:=fun _ _=>False
 ct:St→Hp→Prop:=fun _ _=>False
abbrev TS:=Ends→St→Hp→Prop
def EP (X:Cx) (pins:List (Addr × Obj)) (σ:St) (Q:VK) (u:Value) (s':Shared):Prop:=∃ v H',Inv X pins σ H' s'∧RelV v u∧Q v H'
def TP (X:Cx) (pins:List (Addr × Obj)) (σ:St) (Q:Bool→Hp→Prop) (b:Bool) (s':Shared):Prop:=∃ H',Inv X pins σ H' s'∧Q b H'
def AP (X:Cx) (pins:List (Addr × Obj)) (σ:St) (Q:List V→Hp→Prop) (us:List Value) (s':Shared):Prop:=∃ vs H',Inv X pins σ H' s'∧Vals vs us∧Q vs H'
def SP (X:Cx) (pins:List (Addr × Obj)) (D:Ends) (f:Flow) (s':Shared):Prop :=
 match f with
 | .next=>∃ σ' H',Inv X pins σ' H' s'∧D.nx σ' H'
 | .brk=>∃ σ' H',Inv X pins σ' H' s'∧D.bk σ' H'
 | .cont=>∃ σ' H',Inv X pins σ' H' s'∧D.ct σ' H'
 | .ret u=>∃ v σ' H',Inv X pins σ' H' s'∧RelV v u∧D.rt v H'
def PE (X:Cx) (e:Expr) (t:TE):Prop :=
 ∀ (pins:List (Addr × Obj)) (s:Shared) (σ:St) (H:Hp) (Q:VK),Inv X pins σ H s→t σ H Q→wpAny (model X.prog X.w) X.A (eval e X.env) (EP X pins σ Q) X.xe s
def PT (X:Cx) (e:Expr) (t:TT):Prop :=
 ∀ (pins:List (Addr × Obj)) (s:Shared) (σ:St) (H:Hp) (Q:Bool→Hp→Prop),Inv X pins σ H s→t σ H Q→wpAny (model X.prog X.w) X.A (isTrue e X.env (eval e X.env)) (TP X pins σ Q) X.xe s
def PW (X:Cx) (e:Expr) (t:TT):Prop :=
 ∀ (whole:Sem Value) (pins:List (Addr × Obj)) (s:Shared) (σ:St) (H:Hp) (Q:Bool→Hp→Prop),Inv X pins σ H s→t σ H Q→wpAny (model X.prog X.w) X.A (isTrue e X.env whole) (TP X pins σ Q) X.xe s
theorem PW.pt {X:Cx} {e:Expr} {t:TT} (h:PW X e t):PT X e t:=h _
def PA (X:Cx) (es:List Expr) (t:TA):Prop :=
 ∀ (pos:Pos) (pins:List (Addr × Obj)) (s:Shared) (σ:St) (H:Hp) (Q:List V→Hp→Prop),Inv X pins σ H s→t σ H Q→wpAny (model X.prog X.w) X.A (spliced (backTo pos (starEach es X.env))) (AP X pins σ Q) X.xe s
def PS (X:Cx) (st:Stmt) (t:TS):Prop :=
 ∀ (pins:List (Addr × Obj)) (s:Shared) (σ:St) (H:Hp) (D:Ends),Inv X pins σ H s→t D σ H→wpAny (model X.prog X.w) X.A (exec st X.env) (SP X pins D) X.xe s
def PSs (X:Cx) (st:List Stmt) (t:TS):Prop :=
 ∀ (pins:List (Addr × Obj)) (s:Shared) (σ:St) (H:Hp) (D:Ends),Inv X pins σ H s→t D σ H→wpAny (model X.prog X.w) X.A (execs st X.env) (SP X pins D) X.xe s
theorem thn {α:Type} {t:Sem α} {Q Q':α→Shared→Prop} {M:Model} {A:Around} {E:Value→Shared→Prop} {s:Shared} (h:wpAny M A t Q E s) (hQ:∀ a s,Q a s→Q' a s):wpAny M A t Q' E s:=wpAny_mono h hQ fun _ _ x=>x
end L2
namespace L2
open PySem PySem.Spec PyProof.Rows
section
variable {X:Cx}
def tVar (i:Nat):TE:=fun σ H Q=>∃ v,σ[i]? = some (some v)∧Q v H
def tC (v:V):TE:=fun _ H Q=>Q v H
theorem zgH {i:Nat} {x:Str} {pos:Pos} (hN:X.N[i]? = some x) (hv:Vis X.env.scope x) (hd:(x == ("__debug__" : Str))=false:=by decide) (hcd:(x == ("__classdict__" : Str))=false:=by decide):PE X (.Name x pos) (tVar i):=by
 intro pins s σ H Q I h
 obtain ⟨v,e,h⟩:=h
 obtain ⟨m,hn,hl⟩:=I.loc
 obtain ⟨u,r,l⟩:=hl i x v hN e hv
 have fin:EP X pins σ Q u s:=⟨v,H,I,r,h⟩
 rcases l with ⟨hk,hm⟩ | ⟨hk,c,hc,hcell⟩
 ·exact wpAny_Name (wpAny_loadName_local I.ok.kind hk hn hm fin) hd
 ·rcases hk with hk | hk
  ·exact wpAny_Name (wpAny_loadName_cell I.ok.kind hk hc hcell fin) hd
  ·exact wpAny_Name (wpAny_loadName_free I.ok.kind hk hc hcell fin hcd) hd
theorem ztj {i j pos}:PE X (.Constant (.int i) j pos) (tC (.int i)):=fun _ _ _ H _ I h=>wpAny_Constant_int ⟨.int i,H,I.tok _,⟨_,rfl⟩,h⟩
theorem ztK {b j pos}:PE X (.Constant (.bool b) j pos) (tC (.bl b)):=fun _ _ _ H _ I h=>Constant_bool ⟨.bl b,H,I,rfl,h⟩
theorem zsi {j pos}:PE X (.Constant .none j pos) (tC .non):=fun _ _ _ H _ I h=>Constant_none ⟨.non,H,I,rfl,h⟩
theorem zsb {x j pos}:PE X (.Constant (.str x) j pos) (tC (.str x)):=fun _ _ _ H _ I h=>Calls.Constant_str ⟨.str x,H,I.tok _,⟨_,rfl⟩,h⟩
def Gl (X:Cx) (x:Str):Prop:=X.env.kindOf x=some .globalImplicit
theorem zfu {E:Value→Shared→Prop} {pins:List (Addr × Obj)} {s:Shared} {σ:St} {H:Hp} {x:Str} {u:Value} {pos:Pos} {Q:Value→Shared→Prop} (I:Inv X pins σ H s) (hg:Gl X x) (hm:X.mg x=some u) (h:Q u s)
  (hd:(x == ("__debug__" : Str))=false:=by decide):wpAny (model X.prog X.w) X.A (eval (.Name x pos) X.env) Q E s :=
 Calls.Name_function_global I.ok.kind hg (Calls.loadGlobal_global (by rw [I.ok.glob];exact I.mod.glob.keeps I.bk) hm h) hd
theorem zkg {E:Value→Shared→Prop} {pins:List (Addr × Obj)} {s:Shared} {σ:St} {H:Hp} {x:Str} {u:Value} {pos:Pos} {Q:Value→Shared→Prop} (I:Inv X pins σ H s) (hg:Gl X x) (hm:X.mg x=none) (hv:bootBuiltins x=some u) (h:Q u s)
  (hn:x ≠ "__name__":=by decide) (hd:(x == ("__debug__" : Str))=false:=by decide):wpAny (model X.prog X.w) X.A (eval (.Name x pos) X.env) Q E s:=by
 obtain ⟨mb,h1,h2⟩:=I.mod.blt
 exact Calls.Name_function_global I.ok.kind hg (Calls.loadGlobal_builtin (by rw [I.ok.glob];exact I.mod.glob.keeps I.bk) hm (by rw [I.ok.blt];exact h1.keeps I.bk) ((h2 x hn).trans hv) h) hd
theorem zpS {x:Str} {v:V} {u:Value} {pos:Pos} (hg:Gl X x) (hm:X.mg x=some u) (r:RelV v u) (hd:(x == ("__debug__" : Str))=false:=by decide):PE X (.Name x pos) (tC v) :=
 fun _ _ _ H _ I h=>zfu I hg hm ⟨v,H,I,r,h⟩ hd
variable {a b:Expr} {ta tb:TE} {pos:Pos}
def PC (X:Cx) (op:CmpOp) (a b:Expr) (t:TE):Prop :=
 ∀ (pins:List (Addr × Obj)) (s:Shared) (σ:St) (H:Hp) (Q:VK),Inv X pins σ H s→t σ H Q →
  wpAny (model X.prog X.w) X.A (eval a X.env) (fun v s₁=>wpAny (model X.prog X.w) X.A (eval b X.env) (fun u s₂=>wpAny (model X.prog X.w) X.A (compareOp op v u) (EP X pins σ Q) X.xe s₂) X.xe s₁) X.xe s
def tB (t:TE):TT:=fun σ H Q=>t σ H fun x H1=>∃ c,x = .bl c∧Q c H1
theorem zrR {op:CmpOp} {t:TE} (h:PC X op a b t) (h1:behindInMarks op b=false:=by first | exact nobehind _ (by decide) (by decide) | rfl):PT X (.Compare a [op] [b] pos) (tB t):=by
 intro pins s σ H Q I hw
 refine wpAny_isTrue_Compare1 (thn (h pins s σ H _ I hw) fun v s1 h1=>thn h1 fun u s2 h2=>thn h2 fun c s3 ⟨x,H1,I1,r1,q1⟩=>?_) h1
 obtain ⟨d,rfl,q⟩:=q1
 cases r1
 exact wpAny_truthy_bool ⟨H1,I1,q⟩
theorem zr3 {e:Expr} {t:TE} (h:PE X e t) (he:∀ whole,isTrue e X.env whole=(do let v ← whole;standAt e.pos;holding [v] (truthy v)):=by intro _;rfl):PT X e (tB t):=by
 intro pins s σ H Q I hw
 refine isTrue_plain (thn (h pins s σ H _ I hw) fun v s1 ⟨x,H1,I1,r1,q1⟩=>?_) (he _)
 obtain ⟨d,rfl,q⟩:=q1
 cases r1
 exact wpAny_truthy_bool ⟨H1,I1,q⟩
variable {tA tB':TT} {rest:List Expr}
def tAnd (t u:TT):TT:=fun σ H Q=>t σ H fun c H1=>if c=true then u σ H1 Q else Q false H1
def tOr (t u:TT):TT:=fun σ H Q=>t σ H fun c H1=>if c=true then Q true H1 else u σ H1 Q
def tNot (t:TT):TT:=fun σ H Q=>t σ H fun c H1=>Q (!c) H1
theorem pw_and1 (ha:PT X a tA):PW X (.BoolOp .And [a] pos) tA:=by
 intro wh pins s σ H Q I h
 refine isTrue_and (thn (ha pins s σ H Q I h) fun c s1 e=>?_)
 cases c with
 | true=>exact isTrue_and_nil e
 | false=>exact e
theorem pw_or1 (ha:PT X a tA):PW X (.BoolOp .Or [a] pos) tA:=by
 intro wh pins s σ H Q I h
 refine isTrue_or (thn (ha pins s σ H Q I h) fun c s1 e=>?_)
 cases c with
 | false=>exact isTrue_or_nil e
 | true=>exact e
theorem pw_and (ha:PT X a tA) (hb:PW X (.BoolOp .And (b :: rest) pos) tB'):PW X (.BoolOp .And (a :: b :: rest) pos) (tAnd tA tB'):=by
 intro wh pins s σ H Q I h
 refine isTrue_and (thn (ha pins s σ H _ I h) fun c s1 ⟨H1,I1,q1⟩=>?_)
 cases c with
 | true=>exact hb wh pins s1 σ H1 Q I1 q1
 | false=>exact ⟨H1,I1,q1⟩
theorem pw_or (ha:PT X a tA) (hb:PW X (.BoolOp .Or (b :: rest) pos) tB'):PW X (.BoolOp .Or (a :: b :: rest) pos) (tOr tA tB'):=by
 intro wh pins s σ H Q I h
 refine isTrue_or (thn (ha pins s σ H _ I h) fun c s1 ⟨H1,I1,q1⟩=>?_)
 cases c with
 | true=>exact ⟨H1,I1,q1⟩
 | false=>exact hb wh pins s1 σ H1 Q I1 q1
theorem zte (ha:PT X a tA):PT X (.UnaryOp .Not a pos) (tNot tA):=by
 intro pins s σ H Q I h
 exact isTrue_not (ha pins s σ H (fun c H1=>Q (!c) H1) I h)
def zt2 (ta tb:TE):TE:=fun σ H Q=>ta σ H fun x H1=>∃ c,x = .bl c∧if c=true then tb σ H1 Q else Q (.bl false) H1
def tOrV (ta tb:TE):TE:=fun σ H Q=>ta σ H fun x H1=>∃ c,x = .bl c∧if c=true then Q (.bl true) H1 else tb σ H1 Q
theorem zsQ {op} {t:TE} (h:PE X a t):PE X (.BoolOp op [a] pos) t:=fun pins s σ H Q I hw=>BoolOp_one (h pins s σ H Q I hw)
theorem zsB (ha:PE X a ta) (hb:PE X (.BoolOp .And (b :: rest) pos) tb):PE X (.BoolOp .And (a :: b :: rest) pos) (zt2 ta tb):=by
 intro pins s σ H Q I h
 refine BoolOp_and (thn (ha pins s σ H _ I h) fun v s1 ⟨x,H1,I1,r1,q1⟩=>?_)
 obtain ⟨c,rfl,q1⟩:=q1
 cases r1
 refine wpAny_truthy_bool ?_
 cases c with
 | true=>exact hb pins s1 σ H1 Q I1 q1
 | false=>exact ⟨.bl false,H1,I1,rfl,q1⟩
theorem zts (ha:PE X a ta) (hb:PE X (.BoolOp .Or (b :: rest) pos) tb):PE X (.BoolOp .Or (a :: b :: rest) pos) (tOrV ta tb):=by
 intro pins s σ H Q I h
 refine BoolOp_or (thn (ha pins s σ H _ I h) fun v s1 ⟨x,H1,I1,r1,q1⟩=>?_)
 obtain ⟨c,rfl,q1⟩:=q1
 cases r1
 refine wpAny_truthy_bool ?_
 cases c with
 | false=>exact hb pins s1 σ H1 Q I1 q1
 | true=>exact ⟨.bl true,H1,I1,rfl,q1⟩
def tIf (t:TT) (ta tb:TE):TE:=fun σ H Q=>t σ H fun c H1=>if c=true then ta σ H1 Q else tb σ H1 Q
theorem zoj {c:Expr} (hc:PT X c tA) (ha:PE X a ta) (hb:PE X b tb):PE X (.IfExp c a b pos) (tIf tA ta tb):=by
 intro pins s σ H Q I h
 refine wpAny_IfExp (thn (hc pins s σ H _ I h) fun d s1 ⟨H1,I1,q1⟩=>?_)
 cases d with
 | true=>exact ha pins s1 σ H1 Q I1 q1
 | false=>exact hb pins s1 σ H1 Q I1 q1
end
end L2
namespace L2
open PySem PySem.Spec PyProof.Rows
def SqL (K:PySem.W.Frag) (H:Hp) (a:Addr) (xs:List V):Prop :=
 Rd H a (.lst xs) ∨
  ∃ (o:Obj) (its:Array Value) (n:Nat),K.lookup a=some o∧o.cls = .type "list"∧o.dict=none∧o.data = .seq its n∧its.size ≤ sizeLine∧Vals xs its.toList
def SqT (K:PySem.W.Frag) (H:Hp) (a:Addr) (xs:List V):Prop :=
 Rd H a (.tup xs) ∨
  ∃ (o:Obj) (its:Array Value) (n:Nat),K.lookup a=some o∧o.cls = .type "tuple"∧o.data = .seq its n∧its.size ≤ sizeLine∧Vals xs its.toList
def absV:Value→Option V
 | .none=>some .non
 | .bool b=>some (.bl b)
 | .int i _=>some (.int i)
 | .str x _=>some (.str x)
 | .bytes b _=>some (.byt b)
 | .float b _=>some (.flt b)
 | .ref a=>some (.ref a)
 | .type n=>some (.ty n)
 | _=>none
theorem RelV.abs {x:V} {u:Value} (r:RelV x u):absV u=some x:=by
 cases x with
 | non=>cases r;rfl
 | bl _=>cases r;rfl
 | int _=>obtain ⟨t,rfl⟩:=r;rfl
 | str _=>obtain ⟨t,rfl⟩:=r;rfl
 | byt _=>obtain ⟨t,rfl⟩:=r;rfl
 | flt _=>obtain ⟨t,rfl⟩:=r;rfl
 | ref _=>cases r;rfl
 | ty _=>cases r;rfl
theorem RelV.inj {x y:V} {u:Value} (r:RelV x u) (q:RelV y u):x=y:=Option.some.inj (r.abs.symm.trans q.abs)
theorem Vals.inj:∀ {xs ys:List V} {us:List Value},Vals xs us→Vals ys us→xs=ys
 | _,_,_, .nil, .nil=>rfl
 | _,_,_, .cons r t, .cons r' t'=>by rw [r.inj r',Vals.inj t t']
section
variable {X:Cx} {pins:List (Addr × Obj)} {σ:St} {H:Hp} {s:Shared} {a:Addr} {xs ys:List V}
theorem SqL.of {K:PySem.W.Frag} (h:H a=some (.lst xs)):SqL K H a xs := .inl (.inl h)
theorem SqT.of {K:PySem.W.Frag} (h:H a=some (.tup xs)):SqT K H a xs := .inl (.inl h)
theorem Inv.list (I:Inv X pins σ H s) (h:SqL X.K H a xs):∃ its:List Value,Vals xs its∧PlainL s.heap a its.toArray∧xs.length ≤ sizeLine:=by
 rcases h with h | ⟨o,its,n,hk,hc,hd,hs,hz,r⟩
 ·obtain ⟨z,its,n,r,e⟩:=h.ok I.hok
  exact ⟨its,r,⟨_,n,e,rfl,rfl,rfl⟩,z⟩
 ·refine ⟨its.toList,r,⟨o,n,I.kIn a o hk,hc,hd,by simpa using hs⟩,?_⟩
  have e:=r.length
  simp only [Array.length_toList] at e
  omega
theorem Inv.tuple (I:Inv X pins σ H s) (h:SqT X.K H a xs):∃ its:List Value,Vals xs its∧IsTup s.heap a its.toArray∧xs.length ≤ sizeLine:=by
 rcases h with h | ⟨o,its,n,hk,hc,hs,hz,r⟩
 ·obtain ⟨z,its,r,p⟩:=h.ok I.hok
  exact ⟨its,r,p,z⟩
 ·refine ⟨its.toList,r,⟨o,I.kIn a o hk,hc,n,by simpa using hs⟩,?_⟩
  have e:=r.length
  simp only [Array.length_toList] at e
  omega
theorem Inv.zlR (I:Inv X pins σ H s) (h:SqL X.K H a xs) (h':SqL X.K H a ys):xs=ys:=by
 obtain ⟨its,r,⟨o,n,e,_,_,d⟩,_⟩:=I.list h
 obtain ⟨its',r',⟨o',n',e',_,_,d'⟩,_⟩:=I.list h'
 rw [e] at e';cases e'
 rw [d] at d'
 injection d' with d1 _
 have:its=its':=by simpa using congrArg Array.toList d1
 subst this
 exact r.inj r'
theorem Inv.zm7 (I:Inv X pins σ H s) (h:SqT X.K H a xs) (h':SqT X.K H a ys):xs=ys:=by
 obtain ⟨its,r,⟨o,e,_,n,d⟩,_⟩:=I.tuple h
 obtain ⟨its',r',⟨o',e',_,n',d'⟩,_⟩:=I.tuple h'
 rw [e] at e';cases e'
 rw [d] at d'
 injection d' with d1 _
 have:its=its':=by simpa using congrArg Array.toList d1
 subst this
 exact r.inj r'
end
abbrev Cx.wish (X:Cx) (E:Value→Shared→Prop):Cx:={ X with xe:=E }
abbrev Cx.nox (X:Cx):Cx:=X.wish fun _ _=>False
theorem Cx.Ok.wish {X:Cx} (ok:X.Ok) (E:Value→Shared→Prop):(X.wish E).Ok :=
 ⟨ok.mod,ok.kind,ok.glob,ok.blt,ok.above,ok.inj,ok.has,ok.cab,ok.hd,ok.frames,ok.stk,ok.exf,ok.bs,ok.bsz,ok.noex,ok.exfs,ok.funs,ok.frf⟩
theorem Cx.Ok.zdJ {X:Cx} {E:Value→Shared→Prop} (ok:(X.wish E).Ok):X.Ok :=
 ⟨ok.mod,ok.kind,ok.glob,ok.blt,ok.above,ok.inj,ok.has,ok.cab,ok.hd,ok.frames,ok.stk,ok.exf,ok.bs,ok.bsz,ok.noex,ok.exfs,ok.funs,ok.frf⟩
section
variable {X:Cx} {pins:List (Addr × Obj)} {σ:St} {H:Hp} {s:Shared} {E:Value→Shared→Prop}
theorem Inv.wish (I:Inv X pins σ H s) (E:Value→Shared→Prop):Inv (X.wish E) pins σ H s:=⟨I.ok.wish E,I.os,I.bare,I.base,I.loc,I.cell,I.free,I.freeC,I.pin,I.hok,I.len⟩
theorem Inv.zdJ (I:Inv (X.wish E) pins σ H s):Inv X pins σ H s:=⟨I.ok.zdJ,I.os,I.bare,I.base,I.loc,I.cell,I.free,I.freeC,I.pin,I.hok,I.len⟩
theorem SP.zdJ {D:Ends} {f:Flow} {s':Shared} (h:SP (X.wish E) pins D f s'):SP X pins D f s':=by
 cases f with
 | next=>obtain ⟨σ',H',I,q⟩:=h;exact ⟨σ',H',I.zdJ,q⟩
 | brk=>obtain ⟨σ',H',I,q⟩:=h;exact ⟨σ',H',I.zdJ,q⟩
 | cont=>obtain ⟨σ',H',I,q⟩:=h;exact ⟨σ',H',I.zdJ,q⟩
 | ret u=>obtain ⟨v,σ',H',I,r,q⟩:=h;exact ⟨v,σ',H',I.zdJ,r,q⟩
theorem PE.nox {e:Expr} {t:TE} (h:PE X.nox e t):PE X e t:=fun pins s σ H Q I hw =>
 wpAny_mono (h pins s σ H Q (I.wish _) hw) (fun _ _ ⟨v,H',I',r,q⟩=>⟨v,H',I'.zdJ,r,q⟩) fun _ _ z=>False.elim z
theorem PT.nox {e:Expr} {t:TT} (h:PT X.nox e t):PT X e t:=fun pins s σ H Q I hw =>
 wpAny_mono (h pins s σ H Q (I.wish _) hw) (fun _ _ ⟨H',I',q⟩=>⟨H',I'.zdJ,q⟩) fun _ _ z=>False.elim z
theorem PSs.nox {st:List Stmt} {t:TS} (h:PSs X.nox st t):PSs X st t:=fun pins s σ H D I hw =>
 wpAny_mono (h pins s σ H D (I.wish _) hw) (fun _ _ q=>q.zdJ) fun _ _ z=>False.elim z
end
section
variable {X:Cx} {st:Stmt} {rest:List Stmt} {t u:TS} {e:Expr} {te:TE} {pos:Pos}
def ztM:TS:=fun D σ H=>D.nx σ H
def tSeq (t u:TS):TS:=fun D σ H=>t { D with nx:=u D } σ H
theorem zq6:PSs X [] ztM:=fun _ _ σ H _ I h=>wpAny_execs_nil ⟨σ,H,I,h⟩
theorem zpc (h1:PS X st t) (h2:PSs X rest u):PSs X (st :: rest) (tSeq t u):=by
 intro pins s σ H D I h
 refine wpAny_execs_cons (thn (h1 pins s σ H { D with nx:=u D } I h) fun f s1 q=>?_)
 cases f with
 | next =>
  obtain ⟨σ',H',I',q⟩:=q
  exact h2 pins s1 σ' H' D I' q
 | ret v=>exact q
 | brk=>exact q
 | cont=>exact q
theorem zqE (h1:PS X st t):PSs X [st] t:=by
 intro pins s σ H D I h
 refine wpAny_execs_cons (thn (h1 pins s σ H D I h) fun f s1 q=>?_)
 cases f with
 | next=>exact wpAny_execs_nil q
 | ret v=>exact q
 | brk=>exact q
 | cont=>exact q
theorem Inv.quiet {pins:List (Addr × Obj)} {σ:St} {H:Hp} {s:Shared} (I:Inv X pins σ H s):interactive X.env=false:=by simp [interactive,I.ok.kind]
def zug (te:TE):TS:=fun D σ H=>te σ H fun _ H1=>D.nx σ H1
theorem zp6 (he:PE X e te) (hs:swapsWith e none pos.line X.env=pure false:=by rfl):PS X (.Expr e pos) (zug te):=by
 intro pins s σ H D I h
 exact wpAny_Expr_any (thn (he pins s σ H _ I h) fun v s1 ⟨x,H1,I1,r1,q1⟩=>⟨σ,H1,I1,q1⟩) I.quiet hs
def tRet (te:TE):TS:=fun D σ H=>te σ H D.rt
theorem zsx (he:PE X e te):PS X (.Return (some e) pos) (tRet te):=by
 intro pins s σ H D I h
 exact wpAny_Return_some (thn (he pins s σ H _ I h) fun v s1 ⟨x,H1,I1,r1,q1⟩=>⟨x,σ,H1,I1,r1,q1⟩)
def tIfS (c:TT) (t u:TS):TS:=fun D σ H=>c σ H fun b H1=>if b=true then t D σ H1 else u D σ H1
theorem ztx {c:Expr} {a b:List Stmt} {tc:TT} (hc:PT X c tc) (ha:PSs X a t) (hb:PSs X b u):PS X (.If c a b pos) (tIfS tc t u):=by
 intro pins s σ H D I h
 refine wpAny_If (thn (hc pins s σ H _ I h) fun d s1 ⟨H1,I1,q1⟩=>?_)
 cases d with
 | true=>exact ha pins s1 σ H1 D I1 q1
 | false=>exact hb pins s1 σ H1 D I1 q1
end
abbrev TG:=V→St→Hp→(St→Hp→Prop)→Prop
abbrev TGs:=List V→St→Hp→(St→Hp→Prop)→Prop
def PG (X:Cx) (target:Expr) (t:TG):Prop :=
 ∀ (pins:List (Addr × Obj)) (s:Shared) (σ:St) (H:Hp) (v:V) (u:Value) (Q:St→Hp→Prop),Inv X pins σ H s→RelV v u→t v σ H Q →
  wpAny (model X.prog X.w) X.A (assign target X.env u) (fun _ s'=>∃ σ' H',Inv X pins σ' H' s'∧Q σ' H') X.xe s
def PGs (X:Cx) (ts:List Expr) (t:TGs):Prop :=
 ∀ (pins:List (Addr × Obj)) (s:Shared) (σ:St) (H:Hp) (vs:List V) (us:List Value) (Q:St→Hp→Prop),Inv X pins σ H s→Vals vs us→t vs σ H Q →
  wpAny (model X.prog X.w) X.A (assignInOrder ((assignEach ts X.env).map (·.2)) us) (fun _ s'=>∃ σ' H',Inv X pins σ' H' s'∧Q σ' H') X.xe s
abbrev TSet:=V→V→V→Hp→(Hp→Prop)→Prop
def PSet (X:Cx) (t:TSet):Prop :=
 ∀ (pins:List (Addr × Obj)) (s:Shared) (σ:St) (H:Hp) (o i v:V) (ov iv u:Value) (Q:Hp→Prop),Inv X pins σ H s→RelV o ov→RelV i iv→RelV v u→t o i v H Q →
  wpAny (model X.prog X.w) X.A (setItem ov iv u) (fun _ s'=>∃ H',Inv X pins σ H' s'∧Q H') X.xe s
section
variable {X:Cx} {pos:Pos}
def zsz (i:Nat):TG:=fun v σ H Q=>Q (σ.set i (some v)) H
theorem zpZ {i:Nat} {x:Str} (hN:X.N.Nodup) (hi:X.N[i]? = some x) (hx:Loc X.env.scope x) (hf:X.fn x=true∨X.env.scope.names.lookup x=some .local:=by first | exact .inl rfl | exact .inr rfl | assumption):PG X (.Name x pos) (zsz i):=by
 intro pins s σ H v u Q I r h
 exact wpAny_assign_Name (zg2 I hN hi hx r (fun s' I'=>⟨_,H,I',h⟩) hf)
def gNil:TGs:=fun vs σ H Q=>vs=[]∧Q σ H
def zty (t:TG) (u:TGs):TGs:=fun vs σ H Q=>∃ v r,vs=v :: r∧t v σ H fun σ' H'=>u r σ' H' Q
theorem zpV:PGs X [] gNil:=by
 intro pins s σ H vs us Q I r h
 obtain ⟨e,h⟩:=h
 subst e
 cases r
 exact assignInOrder_nil ⟨σ,H,I,h⟩
theorem zor {e:Expr} {es:List Expr} {t:TG} {u:TGs} (h1:PG X e t) (h2:PGs X es u)
  (hs:(assignEach (e :: es) X.env).map (·.2)=assign e X.env :: (assignEach es X.env).map (·.2):=by rfl):PGs X (e :: es) (zty t u):=by
 intro pins s σ H vs us Q I r h
 obtain ⟨v,vr,e1,h⟩:=h
 subst e1
 cases r with
 | cons r rr =>
  rw [hs]
  refine assignInOrder_cons (thn (h1 pins s σ H _ _ _ I r h) fun _ s1 ⟨σ1,H1,I1,q1⟩=>?_)
  exact h2 pins s1 σ1 H1 _ _ Q I1 rr q1
def gTup (K:PySem.W.Frag) (n:Nat) (t:TGs):TG:=fun v σ H Q=>∃ a xs,v = .ref a∧SqT K H a xs∧xs.length=n∧t xs σ H Q
theorem zth {es:List Expr} {k:Nat} {t:TGs} {n:Nat} (hc:X.calm=true) (h:PGs X es t)
  (hn:(assignEach es X.env).length=n:=by rfl) (hst:(assignEach es X.env).findIdx? (·.1)=none:=by rfl):PG X (.Tuple es k pos) (gTup X.K n t):=by
 intro pins s σ H v u Q I r hw
 obtain ⟨a,xs,e1,hq,hl,hw⟩:=hw
 subst e1
 cases r
 obtain ⟨its,rv,ht,hz⟩:=I.tuple hq
 refine assign_Tuple_tuple (I.ok.hd hc) ht (by simp [hn,← hl,rv.length]) hst fun h' hx=>?_
 have I1:Inv X pins σ H { s with heap:=h' }:=I.kept (t':=s.toks) fun b o e=>hx b o (Nat.ne_of_lt (Heap.lt_size e)) e
 exact h pins _ σ H xs _ Q I1 (by simpa using rv) hw
def gSub (to ti:TE) (t:TSet):TG:=fun v σ H Q=>to σ H fun o H1=>ti σ H1 fun i H2=>t o i v H2 fun H3=>Q σ H3
theorem zsS {o i:Expr} {to ti:TE} {t:TSet} (ho:PE X o to) (hi:PE X i ti) (hs:PSet X t)
  (ha:∀ v,assign (.Subscript o i pos) X.env v=(do
   let ov ← holding [v] (eval o X.env)
   let iv ← holding [v,ov] (eval i X.env)
   standAt pos
   holding [v,ov,iv] (setItem ov iv v)
   release [v,ov,iv] []):=by intro _;rfl):PG X (.Subscript o i pos) (gSub to ti t):=by
 intro pins s σ H v u Q I r h
 rw [ha]
 refine wpAny_bind (wpAny_holding (thn (ho pins s σ H _ I h) fun ov s1 ⟨x,H1,I1,r1,q1⟩=>?_))
 refine wpAny_bind (wpAny_holding (thn (hi pins s1 σ H1 _ I1 q1) fun iv s2 ⟨y,H2,I2,r2,q2⟩=>?_))
 refine wpAny_bind (wpAny_standAt (wpAny_bind (wpAny_holding (thn (hs pins s2 σ H2 x y v ov iv u _ I2 r1 r2 r q2) fun _ s3 ⟨H3,I3,q3⟩=>?_))))
 exact wpAny_release ⟨σ,H3,I3,q3⟩
def tAsg (te:TE) (g:TG):TS:=fun D σ H=>te σ H fun x H1=>g x σ H1 D.nx
theorem zsP {tg e:Expr} {te:TE} {g:TG} (he:PE X e te) (hg:PG X tg g) (hs:swapsWithSole [tg] e pos.line X.env=pure false:=by rfl) (hw:swappedStores [tg] e X.env=pure none:=by rfl)
  (h1:(assignEach [tg] X.env).map (·.2)=[assign tg X.env]:=by rfl):PS X (.Assign [tg] e pos) (tAsg te g):=by
 intro pins s σ H D I h
 refine wpAny_Assign_stores (thn (he pins s σ H _ I h) fun v s1 ⟨x,H1,I1,r1,q1⟩=>?_) hs hw
 rw [h1]
 exact thn (hg pins s1 σ H1 x v _ I1 r1 q1) fun _ s2 q=>q
theorem ztb {i:Nat} {x:Str} {e:Expr} {te:TE} {pos':Pos} (hN:X.N.Nodup) (hi:X.N[i]? = some x) (hx:Loc X.env.scope x) (he:PE X e te) (hs:swapsWith e (some (.Name x pos')) pos.line X.env=pure false:=by rfl) (hf:X.fn x=true∨X.env.scope.names.lookup x=some .local:=by first | exact .inl rfl | exact .inr rfl | assumption) :
  PS X (.Assign [.Name x pos'] e pos) (tAsg te (zsz i)):=by
 intro pins s σ H D I h
 refine wpAny_Assign_Name (thn (he pins s σ H _ I h) fun v s1 ⟨y,H1,I1,r1,q1⟩=>?_) hs
 exact zg2 I1 hN hi hx r1 (fun s2 I2=>⟨_,H1,I2,q1⟩) hf
end
section
variable {X:Cx} {pos:Pos}
def zpG (c:TT) (tb:TS):TS:=fun D σ H=>∃ W:Nat→St→Hp→Prop,(∃ m,W m σ H)∧∀ m σ H,W m σ H →
 c σ H fun b H1=>if b=true then ∃ N:St→Hp→Prop,(∀ σ' H',N σ' H'→∃ m',m' < m∧W m' σ' H')∧tb { D with nx:=N,ct:=N,bk:=D.nx } σ H1 else D.nx σ H1
theorem zop {c:Expr} {body:List Stmt} {tc:TT} {tb:TS} (hp:PassesOwn (model X.prog X.w) X.A X.env X.xe) (hc:PT X c tc) (hb:PSs X body tb):PS X (.While c body [] pos) (zpG tc tb):=by
 intro pins s σ H D I h
 obtain ⟨W,⟨m0,w0⟩,turn⟩:=h
 refine wpAny_While (codeAny_whileLoop (fun n s'=>∃ σ' H',Inv X pins σ' H' s'∧W n σ' H') ?_ m0 ⟨σ,H,I,w0⟩)
 rintro n s1 ⟨σ1,H1,I1,w1⟩
 refine wpAny_passesOwn hp (thn (hc pins s1 σ1 H1 _ I1 (turn n σ1 H1 w1)) fun b s2 ⟨H2,I2,q2⟩=>?_)
 cases b with
 | true =>
  obtain ⟨N,hN,q2⟩:=q2
  rw [if_pos rfl]
  refine wpAny_passesOwn hp (thn (hb pins s2 σ1 H2 _ I2 q2) fun f s3 q3=>?_)
  cases f with
  | next =>
   obtain ⟨σ3,H3,I3,n3⟩:=q3
   obtain ⟨m',hm,w3⟩:=hN σ3 H3 n3
   exact ⟨m',hm,σ3,H3,I3,w3⟩
  | cont =>
   obtain ⟨σ3,H3,I3,n3⟩:=q3
   obtain ⟨m',hm,w3⟩:=hN σ3 H3 n3
   exact ⟨m',hm,σ3,H3,I3,w3⟩
  | brk=>exact q3
  | ret v=>exact q3
 | false =>
  rw [if_neg Bool.false_ne_true]
  exact wpAny_execs_nil ⟨σ1,H2,I2,q2⟩
end
structure It where
 go:Nat→Hp→Prop
 yld:Nat→Hp→V→Hp→Prop
 stop:Nat→Hp→Prop
def FpOk (X:Cx) (pins:List (Addr × Obj)) (H:Hp) (b:Addr):Prop :=
 H b=none∧b ≠ X.env.locals∧b ∉ X.fs∧(b ∈ X.ex∨X.s₀.heap.objs.size ≤ b)∧(∀ x c,X.env.cells.lookup x=some c→c ≠ b)∧∀ p ∈ X.pn ++ pins,p.1 ≠ b
theorem Inv.fpOk {X:Cx} {pins:List (Addr × Obj)} {σ:St} {H H':Hp} {s:Shared} {b:Addr} (I:Inv X pins σ H s) (hb:s.heap.objs.size ≤ b) (hn:H' b=none):FpOk X pins H' b:=by
 refine ⟨hn,Nat.ne_of_gt (Nat.lt_of_lt_of_le I.lt hb),I.nofs hb, .inr (Nat.le_trans I.sz hb),fun x c e z=>?_,fun p hp z=>?_⟩
 ·obtain ⟨v,q⟩:=I.cell x c e
  exact absurd (Nat.lt_of_lt_of_le q.lt (by rw [z];exact hb)) (Nat.lt_irrefl _)
 ·exact absurd (Nat.lt_of_lt_of_le (Heap.lt_size (I.pin p hp).1) (by rw [z];exact hb)) (Nat.lt_irrefl _)
structure Turn (P:Program) (w:World) (K:PySem.W.Frag) (tg:Expr) (J:It) (fp:List Addr) (it:Addr) (tn:Nat→Heap→Prop):Prop where
 mem:it ∈ fp
 obj:∀ i h,tn i h→∀ b ∈ fp,∃ o,h.get? b=some o∧∀ v,o.data ≠ .cell v
 keep:∀ i h h',tn i h→(∀ b ∈ fp,∀ o,h.get? b=some o→h'.get? b=some o)→tn i h'
 item:∀ (X:Cx),X.prog=P→X.w=w→X.K=K→X.calm=true→∀ (i:Nat) (pins:List (Addr × Obj)) (s:Shared) (σ:St) (H:Hp) (E:Value→Shared→Prop),Inv X pins σ H s→(∀ b ∈ fp,FpOk X pins H b)→tn i s.heap→J.go i H →
  wpAny (model P w) X.A (pyNext (.ref it)) (fun r s1=>∃ u,r=some u ∧
   wpAny (model P w) X.A (letOwnedTupleGo tg (.ref it) u) (fun _ s2=>∃ x H',Inv X pins σ H' s2∧RelV x u∧J.yld i H x H'∧tn (i + 1) s2.heap∧∀ b ∈ fp,H' b=none) E s1) E s
 done:∀ (X:Cx),X.prog=P→X.w=w→X.K=K→X.calm=true→∀ (i:Nat) (pins:List (Addr × Obj)) (s:Shared) (σ:St) (H:Hp) (E:Value→Shared→Prop),Inv X pins σ H s→(∀ b ∈ fp,FpOk X pins H b)→tn i s.heap→J.stop i H →
  wpAny (model P w) X.A (pyNext (.ref it)) (fun r s1=>r=none∧Inv X pins σ H s1) E s
 self:∀ (A:Around) (i:Nat) (s:Shared) (Q:Value→Shared→Prop) (E:Value→Shared→Prop),tn i s.heap→Q (.ref it) s→wpAny (model P w) A (pyIter (.ref it)) Q E s
abbrev TI:=St→Hp→(It→Hp→Prop)→Prop
def PIE (X:Cx) (pins:List (Addr × Obj)) (σ:St) (tg:Expr) (R:It→Hp→Prop) (itv:Value) (s2:Shared):Prop :=
 ∃ (it:Addr) (fp:List Addr) (tn:Nat→Heap→Prop) (J:It) (H':Hp),itv = .ref it∧Inv X pins σ H' s2∧Turn X.prog X.w X.K tg J fp it tn∧tn 0 s2.heap∧(∀ b ∈ fp,FpOk X pins H' b)∧R J H'
def PI (X:Cx) (tg iter:Expr) (wi:TI):Prop :=
 ∀ (pins:List (Addr × Obj)) (s:Shared) (σ:St) (H:Hp) (R:It→Hp→Prop),Inv X pins σ H s→wi σ H R →
  wpAny (model X.prog X.w) X.A (eval iter X.env) (fun v s1=>wpAny (model X.prog X.w) X.A (pyIter v) (PIE X pins σ tg R) X.xe s1) X.xe s
theorem zqP {M:Model} {A:Around} {E:Value→Shared→Prop} {s:Shared} {tg:Expr} {it:Addr} {u:Value} {o:Obj} {n:String} {vs:Array Value} {Q:Unit→Shared→Prop} (ho:s.heap.get? it=some o) (hc:o.cls = .type n) (hd:o.data = .fields vs)
  (hn : ["enumerate", "zip", "dict_itemiterator", "dict_reverseitemiterator", "odict_iterator", "itertools.zip_longest", "itertools.pairwise"].contains n=false) (hQ:Q () s):wpAny M A (letOwnedTupleGo tg (.ref it) u) Q E s:=by
 unfold letOwnedTupleGo
 cases tg <;> first
  | exact wpAny_pure hQ
  | (cases u <;> first
    | exact wpAny_pure hQ
    | (refine wpAny_bind (wpAny_load ho ?_)
       rw [hc,hd]
       show wpAny M A (if (["enumerate", "zip", "dict_itemiterator", "dict_reverseitemiterator", "odict_iterator", "itertools.zip_longest", "itertools.pairwise"].contains n && vs[0]? == some (rawInt _))=true then _ else _) Q E s
       rw [if_neg (by intro h;rw [hn,Bool.false_and] at h;cases h)]
       exact wpAny_pure hQ))
def Itl (K:PySem.W.Frag) (a:Addr):It :=
 ⟨fun i H=>∃ xs x,SqL K H a xs∧xs[i]? = some x,fun i H x H'=>H'=H∧∀ xs,SqL K H a xs→xs[i]? = some x,fun i H=>∃ xs,SqL K H a xs∧xs.length ≤ i⟩
def Itt (K:PySem.W.Frag) (a:Addr):It :=
 ⟨fun i H=>∃ xs x,SqT K H a xs∧xs[i]? = some x,fun i H x H'=>H'=H∧∀ xs,SqT K H a xs→xs[i]? = some x,fun i H=>∃ xs,SqT K H a xs∧xs.length ≤ i⟩
def Itr (lo:Int) (n:Nat):It:=⟨fun i _=>i < n,fun i H x H'=>H'=H∧x = .int (lo + i),fun i _=>n ≤ i⟩
theorem zoa {P:Program} {w:World} {K:PySem.W.Frag} {tg:Expr} (a it:Addr):Turn P w K tg (Itl K a) [it] it (fun i h=>h.IsListIter it a i) where
 mem:=by simp
 obj:=fun i h st b hb=>by
  have e:b=it:=by simpa using hb
  subst e
  obtain ⟨o,e,c,d⟩:=st
  exact ⟨o,e,fun v z=>by rw [d] at z;cases z⟩
 keep:=fun i h h' st k=>st.at fun o e=>k it (by simp) o e
 item:=by
  intro X hP hw hK hc i pins s σ H E I hf st hg
  subst hP hw hK
  obtain ⟨xs,x,hq,hx⟩:=hg
  obtain ⟨its,rv,p,hz⟩:=I.list hq
  obtain ⟨u,hu,ru⟩:=rv.get hx
  obtain ⟨f0,f1,f2,f3,f4,f5⟩:=hf it (by simp)
  refine wpAny_pyNext_list_item st p.isList (x:=u) (by simpa using hu) fun h' st' sb=>?_
  have I1:Inv X pins σ H { s with heap:=h' }:=I.turned (t':=s.toks) (fun b o hb e=>(sb.2 b hb).trans e) f0 f1 f3 f4 f5
  obtain ⟨o,e,c,d⟩:=id st'
  exact ⟨u,rfl,zqP (s:={ s with heap:=h' }) e c d (by decide) ⟨x,H,I1,ru,⟨rfl,fun ys hy=>by rw [I.zlR hy hq];exact hx⟩,st',fun b hb=>(hf b hb).1⟩⟩
 done:=by
  intro X hP hw hK hc i pins s σ H E I hf st hg
  subst hP hw hK
  obtain ⟨xs,hq,hx⟩:=hg
  obtain ⟨its,rv,p,hz⟩:=I.list hq
  obtain ⟨f0,f1,f2,f3,f4,f5⟩:=hf it (by simp)
  have hl:=rv.length
  exact wpAny_pyNext_list_end (I.ok.hd hc) st p.isList (by simp;omega) fun h' eb=>⟨rfl,I.turned (t':=s.toks) (fun b o hb e=>eb b o hb e) f0 f1 f3 f4 f5⟩
 self:=fun _ _ _ _ _ st h=>wpAny_pyIter_listiter st h
theorem zmn {P:Program} {w:World} {K:PySem.W.Frag} {tg:Expr} (a it:Addr):Turn P w K tg (Itt K a) [it] it (fun i h=>h.IsTupleIter it a i) where
 mem:=by simp
 obj:=fun i h st b hb=>by
  have e:b=it:=by simpa using hb
  subst e
  obtain ⟨o,e,c,d⟩:=st
  exact ⟨o,e,fun v z=>by rw [d] at z;cases z⟩
 keep:=fun i h h' st k=>st.at fun o e=>k it (by simp) o e
 item:=by
  intro X hP hw hK hc i pins s σ H E I hf st hg
  subst hP hw hK
  obtain ⟨xs,x,hq,hx⟩:=hg
  obtain ⟨its,rv,p,hz⟩:=I.tuple hq
  obtain ⟨u,hu,ru⟩:=rv.get hx
  obtain ⟨f0,f1,f2,f3,f4,f5⟩:=hf it (by simp)
  refine wpAny_pyNext_tuple_item st (show s.heap.IsTuple a its.toArray from p) (x:=u) (by simpa using hu) fun h' st' sb=>?_
  have I1:Inv X pins σ H { s with heap:=h' }:=I.turned (t':=s.toks) (fun b o hb e=>(sb.2 b hb).trans e) f0 f1 f3 f4 f5
  obtain ⟨o,e,c,d⟩:=id st'
  exact ⟨u,rfl,zqP (s:={ s with heap:=h' }) e c d (by decide) ⟨x,H,I1,ru,⟨rfl,fun ys hy=>by rw [I.zm7 hy hq];exact hx⟩,st',fun b hb=>(hf b hb).1⟩⟩
 done:=by
  intro X hP hw hK hc i pins s σ H E I hf st hg
  subst hP hw hK
  obtain ⟨xs,hq,hx⟩:=hg
  obtain ⟨its,rv,p,hz⟩:=I.tuple hq
  obtain ⟨f0,f1,f2,f3,f4,f5⟩:=hf it (by simp)
  have hl:=rv.length
  exact wpAny_pyNext_tuple_end (I.ok.hd hc) st (show s.heap.IsTuple a its.toArray from p) (by simp;omega) fun h' eb=>⟨rfl,I.turned (t':=s.toks) (fun b o hb e=>eb b o hb e) f0 f1 f3 f4 f5⟩
 self:=fun _ _ _ _ _ st h=>wpAny_pyIter_tupleiter st h
theorem zl7 {P:Program} {w:World} {K:PySem.W.Frag} {tg:Expr} (it:Addr) (lo:Int) (n:Nat):Turn P w K tg (Itr lo n) [it] it (fun i h=>IsRangeIter h it (lo + (i:Nat) * 1) ((n:Int) - (i:Nat)) 1) where
 mem:=by simp
 obj:=fun i h st b hb=>by
  have e:b=it:=by simpa using hb
  subst e
  exact ⟨_,st,fun v z=>by
   have z':Data.fields _=Data.cell v:=z
   cases z'⟩
 keep:=fun i h h' st k=>k it (by simp) _ st
 item:=by
  intro X hP hw hK hc i pins s σ H E I hf st hg
  subst hP hw hK
  obtain ⟨f0,f1,f2,f3,f4,f5⟩:=hf it (by simp)
  have W:=Walks.range (prog:=X.prog) (w:=X.w) (I.ok.hd hc) it lo 1 n
  refine W.item i s _ _ hg st fun v h' tk hv st' kk=>?_
  obtain ⟨t,rfl⟩:=hv
  have I1:Inv X pins σ H { s with heap:=h',toks:=tk }:=I.turned (fun b o hb e=>kk b o (by simpa using hb) e) f0 f1 f3 f4 f5
  refine ⟨_,rfl,zqP (s:={ s with heap:=h',toks:=tk }) (n := "range_iterator") st' rfl rfl (by decide) ⟨.int (lo + i),H,I1,⟨t,?_⟩,⟨rfl,rfl⟩,st',fun b hb=>(hf b hb).1⟩⟩
  rw [Int.mul_one]
 done:=by
  intro X hP hw hK hc i pins s σ H E I hf st hg
  subst hP hw hK
  obtain ⟨f0,f1,f2,f3,f4,f5⟩:=hf it (by simp)
  exact wpAny_pyNext_range_end (I.ok.hd hc) st (by have:n ≤ i:=hg;omega) fun h' eb=>⟨rfl,I.turned (t':=s.toks) (fun b o hb e=>eb b o hb e) f0 f1 f3 f4 f5⟩
 self:=fun _ _ _ _ _ st h=>wpAny_pyIter_rangeiter st h
end L2
namespace L2
open PySem PySem.Spec PyProof.Rows
section
variable {X:Cx} {tg:Expr}
theorem zlq {pins:List (Addr × Obj)} {σ:St} {H:Hp} {s:Shared} {R:It→Hp→Prop} {E:Value→Shared→Prop} {lo hi:Int} {t u v:Tok} {tk:Nat} (I:Inv X pins σ H s) (h1 : -(2 ^ 62) ≤ lo) (h2:lo < 2 ^ 62) (h3 : -(2 ^ 62) ≤ hi) (h4:hi < 2 ^ 62)
  (q:R (Itr lo (hi - lo).toNat) H):wpAny (model X.prog X.w) X.A (pyIter (.ref s.heap.objs.size)) (PIE X pins σ tg R) E { s with heap:=s.heap.push { cls := .type "range",data := .fields #[.int lo t, .int hi u, .int 1 v] },toks:=tk }:=by
 refine wpAny_pyIter_range (IsRange.new ..) (small_one h1 h2 h3 h4) ?_
 have I1:Inv X pins σ H { s with heap:=s.heap.push { cls := .type "range",data := .fields #[.int lo t, .int hi u, .int 1 v] },toks:=tk }:=I.kept fun b o e=>Heap.get?_push_of_some _ e
 refine ⟨(s.heap.push { cls := .type "range",data := .fields #[.int lo t, .int hi u, .int 1 v] }).objs.size,[(s.heap.push { cls := .type "range",data := .fields #[.int lo t, .int hi u, .int 1 v] }).objs.size],_,_,H,rfl,
  I1.kept (t':=tk) fun b o e=>Heap.get?_push_of_some _ e,zl7 _ lo (hi - lo).toNat,?_,fun b hb=>?_,q⟩
 ·have e1:lo + ((0:Nat):Int) * 1=lo:=by simp
  have e2:(((hi - lo).toNat:Nat):Int) - ((0:Nat):Int)=Builtin.Range.rangeSize lo hi 1:=by rw [rangeSize_one];split <;> omega
  show IsRangeIter _ _ (lo + ((0:Nat):Int) * 1) ((((hi - lo).toNat:Nat):Int) - ((0:Nat):Int)) 1
  rw [e1,e2]
  exact Heap.get?_push_size _ rfl
 ·have e:b=(s.heap.push { cls := .type "range",data := .fields #[.int lo t, .int hi u, .int 1 v] }).objs.size:=by simpa using hb
  subst e
  exact I1.fpOk (Nat.le_refl _) (I1.hok.fresh (Nat.le_refl _))
def zt3 (ta:TA):TI:=fun σ H R=>ta σ H fun vs H1=>∃ j:Int,vs=[.int j]∧-(2 ^ 62) ≤ j∧j < 2 ^ 62∧R (Itr 0 j.toNat) H1
def zuf (ta:TA):TI:=fun σ H R=>ta σ H fun vs H1=>∃ i j:Int,vs=[.int i, .int j]∧(-(2 ^ 62) ≤ i∧i < 2 ^ 62∧-(2 ^ 62) ≤ j∧j < 2 ^ 62)∧R (Itr i (j - i).toNat) H1
theorem zmJ {a:Expr} {ta:TA} {p pos:Pos} (hg:Gl X "range") (hm:X.mg "range" = none) (ha:PA X [a] ta) (hs:starEach [a] X.env=[(false,eval a X.env)]:=by rfl):PI X tg (.Call (.Name "range" p) [a] [] pos) (zt3 ta):=by
 intro pins s σ H R I h
 refine Call_ (zkg I hg hm boot_range (PyProof.Rows.callWith_type1 (thn (ha pos pins s σ H _ I h) fun us s1 ⟨vs,H1,I1,r1,q1⟩=>?_) hs rfl))
 obtain ⟨j,e,q1,q2,q⟩:=q1
 subst e
 cases r1 with
 | cons r rr =>
  cases rr
  obtain ⟨t,rfl⟩:=r
  exact call_range_1 (zlq I1 (by omega) (by omega) q1 q2 (by simpa using q))
theorem zmC {a b:Expr} {ta:TA} {p pos:Pos} (hg:Gl X "range") (hm:X.mg "range" = none) (ha:PA X [a,b] ta) (hs:starEach [a,b] X.env=[(false,eval a X.env),(false,eval b X.env)]:=by rfl) (hs2:starEach [b] X.env=[(false,eval b X.env)]:=by rfl) :
  PI X tg (.Call (.Name "range" p) [a,b] [] pos) (zuf ta):=by
 intro pins s σ H R I h
 refine Call_ (zkg I hg hm boot_range (PyProof.Rows.callWith_type1 (thn (ha pos pins s σ H _ I h) fun us s1 ⟨vs,H1,I1,r1,q1⟩=>?_) (by rw [hs,hs2]) (by rw [hs2];rfl)))
 obtain ⟨i,j,e,⟨q1,q2,q3,q4⟩,q⟩:=q1
 subst e
 cases r1 with
 | cons r rr =>
  cases rr with
  | cons r' rr =>
   cases rr
   obtain ⟨t,rfl⟩:=r
   obtain ⟨t',rfl⟩:=r'
   exact call_range_2 (zlq I1 q1 q2 q3 q4 q)
def tFor (wi:TI) (g:TG) (tb:TS):TS:=fun D σ H=>wi σ H fun J H1=>∃ W:Nat→Nat→St→Hp→Prop,(∃ m,W 0 m σ H1)∧∀ i m σ H,W i m σ H →
 (J.stop i H∧D.nx σ H)∨(J.go i H∧∃ N:St→Hp→Prop,(∀ σ' H',N σ' H'→∃ m',m' < m∧W (i + 1) m' σ' H')∧∀ x H',J.yld i H x H'→g x σ H' fun σ2 H2=>tb { D with nx:=N,ct:=N,bk:=D.nx } σ2 H2)
def zjy (fp:List Addr) (h:Heap):List (Addr × Obj):=fp.filterMap fun b=>(h.get? b).map fun o=>(b,o)
theorem ze3 {fp:List Addr} {h:Heap} {b:Addr} {o:Obj} (hb:b ∈ fp) (e:h.get? b=some o):(b,o) ∈ zjy fp h:=List.mem_filterMap.mpr ⟨b,hb,by rw [e];rfl⟩
theorem zm6 {fp:List Addr} {h:Heap} {p:Addr × Obj} (hp:p ∈ zjy fp h):p.1 ∈ fp∧h.get? p.1=some p.2:=by
 obtain ⟨b,hb,e⟩:=List.mem_filterMap.mp hp
 cases q:h.get? b with
 | none=>rw [q] at e;cases e
 | some o =>
  rw [q] at e
  have e':(b,o)=p:=Option.some.inj e
  subst e'
  exact ⟨hb,q⟩
theorem Inv.pinned {pins:List (Addr × Obj)} {σ:St} {H:Hp} {s:Shared} {fp:List Addr} (I:Inv X pins σ H s) (hf:∀ b ∈ fp,FpOk X pins H b) (ho:∀ b ∈ fp,∃ o,s.heap.get? b=some o∧∀ v,o.data ≠ .cell v):Inv X (pins ++ zjy fp s.heap) σ H s :=
 I.zkC fun p hp=>(List.mem_append.mp hp).elim (fun z=>I.pin p (List.mem_append_right _ z)) fun z=>by
  obtain ⟨hb,e⟩:=zm6 z
  obtain ⟨f0,f1,f2,_⟩:=hf p.1 hb
  obtain ⟨o,e',d⟩:=ho p.1 hb
  rw [e] at e';cases e'
  exact ⟨e,f0,f1,f2,d⟩
theorem Inv.zg6 {pins pl:List (Addr × Obj)} {σ:St} {H:Hp} {s:Shared} (I:Inv X (pins ++ pl) σ H s):Inv X pins σ H s:=I.zkC fun p hp=>I.pin p (List.mem_append_right _ (List.mem_append_left _ hp))
theorem zsG {iter:Expr} {body:List Stmt} {wi:TI} {g:TG} {tb:TS} {pos:Pos} (hp:PassesOwn (model X.prog X.w) X.A X.env X.xe) (hc:X.calm=true) (hi:PI X tg iter wi) (hg:PG X tg g) (hb:PSs X body tb)
  (hs:∀ x,foldedSetIterable iter X.env x=pure x:=by intro _;rfl):PS X (.For tg iter body [] pos) (tFor wi g tb):=by
 intro pins s σ H D I h
 refine wpAny_For (thn (hi pins s σ H _ I h) fun v s1 h1=>thn h1 fun itv s2 h2=>?_) hs
 obtain ⟨it,fp,tn,J,H2,e,I2,T,st2,f2,W,⟨m0,w0⟩,turn⟩:=h2
 subst e
 have stat:∀ {H':Hp},(∀ b ∈ fp,H' b=none)→∀ b ∈ fp,FpOk X pins H' b:=fun hn b hb=>⟨hn b hb,(f2 b hb).2⟩
 refine codeAny_forLoop_any (fun n s'=>∃ i σ' H',Inv X pins σ' H' s'∧tn i s'.heap∧(∀ b ∈ fp,H' b=none)∧W i n σ' H') ?_ m0 ⟨0,σ,H2,I2,st2,fun b hb=>(f2 b hb).1,w0⟩
 rintro n s3 ⟨i,σ3,H3,I3,st3,fr3,w3⟩
 rcases turn i n σ3 H3 w3 with ⟨stop,qn⟩ | ⟨go,N,hN,step⟩
 ·refine wpAny_passesOwn hp (thn (T.done X rfl rfl rfl hc i pins s3 σ3 H3 X.xe I3 (stat fr3) st3 stop) fun r s4 ⟨hr,I4⟩=>?_)
  subst hr
  exact wpAny_execs_nil ⟨σ3,H3,I4,qn⟩
 ·refine wpAny_passesOwn hp (thn (T.item X rfl rfl rfl hc i pins s3 σ3 H3 X.xe I3 (stat fr3) st3 go) fun r s4 ⟨u,hr,h4⟩=>?_)
  subst hr
  refine wpAny_passesOwn hp (thn h4 fun _ s5 ⟨x,H5,I5,r5,y5,st5,fr5⟩=>?_)
  have I5':=I5.pinned (stat fr5) (T.obj _ _ st5)
  refine wpAny_passesOwn hp (thn (hg _ s5 σ3 H5 x u _ I5' r5 (step x H5 y5)) fun _ s6 ⟨σ6,H6,I6,q6⟩=>?_)
  refine wpAny_passesOwn hp (thn (hb _ s6 σ6 H6 _ I6 q6) fun f s7 q7=>?_)
  have again:∀ {σ7:St} {H7:Hp},Inv X (pins ++ zjy fp s5.heap) σ7 H7 s7→N σ7 H7→∃ m,m < n∧∃ i σ' H',Inv X pins σ' H' s7∧tn i s7.heap∧(∀ b ∈ fp,H' b=none)∧W i m σ' H':=fun {σ7 H7} I7 n7=>by
   obtain ⟨m',hm,w7⟩:=hN σ7 H7 n7
   refine ⟨m',hm,i + 1,σ7,H7,I7.zg6,T.keep _ _ _ st5 fun b hb o e=>(I7.pin (b,o) (List.mem_append_right _ (List.mem_append_right _ (ze3 hb e)))).1,fun b hb=>?_,w7⟩
   obtain ⟨o,e,d⟩:=T.obj _ _ st5 b hb
   exact (I7.pin (b,o) (List.mem_append_right _ (List.mem_append_right _ (ze3 hb e)))).2.1
  cases f with
  | next=>obtain ⟨σ7,H7,I7,n7⟩:=q7;exact again I7 n7
  | cont=>obtain ⟨σ7,H7,I7,n7⟩:=q7;exact again I7 n7
  | brk=>obtain ⟨σ7,H7,I7,q7⟩:=q7;exact ⟨σ7,H7,I7.zg6,q7⟩
  | ret v=>obtain ⟨x7,σ7,H7,I7,r7,q7⟩:=q7;exact ⟨x7,σ7,H7,I7.zg6,r7,q7⟩
end
end L2
namespace L2
open PySem PySem.Spec PyProof.Rows
abbrev R2:=V→V→Hp→VK→Prop
def OpR (X:Cx) (f:Value→Value→Sem Value) (r:R2):Prop :=
 ∀ (pins:List (Addr × Obj)) (s:Shared) (σ:St) (H:Hp) (x y:V) (v u:Value) (Q:VK),Inv X pins σ H s→RelV x v→RelV y u→r x y H Q →
  wpAny (model X.prog X.w) X.A (f v u) (EP X pins σ Q) X.xe s
def UnR (X:Cx) (f:Value→Sem Value) (r:V→Hp→VK→Prop):Prop :=
 ∀ (pins:List (Addr × Obj)) (s:Shared) (σ:St) (H:Hp) (x:V) (v:Value) (Q:VK),Inv X pins σ H s→RelV x v→r x H Q →
  wpAny (model X.prog X.w) X.A (f v) (EP X pins σ Q) X.xe s
def zfo (X:Cx) (f:Value) (r:List V→Hp→VK→Prop):Prop :=
 ∀ (pins:List (Addr × Obj)) (s:Shared) (σ:St) (H:Hp) (xs:List V) (us:List Value) (Q:VK),Inv X pins σ H s→Vals xs us→r xs H Q →
  wpAny (model X.prog X.w) X.A (call f us) (EP X pins σ Q) X.xe s
def tOp (r:R2) (ta tb:TE):TE:=fun σ H Q=>ta σ H fun x H1=>tb σ H1 fun y H2=>r x y H2 Q
def tUn (r:V→Hp→VK→Prop) (ta:TE):TE:=fun σ H Q=>ta σ H fun x H1=>r x H1 Q
def rI (C:Int→Int→Prop) (g:Int→Int→V):R2:=fun x y H Q=>∃ i j,x = .int i∧y = .int j∧C i j∧Q (g i j) H
def rI0 (g:Int→Int→V):R2:=fun x y H Q=>∃ i j,x = .int i∧y = .int j∧Q (g i j) H
def rU (g:Int→V):V→Hp→VK→Prop:=fun x H Q=>∃ i,x = .int i∧Q (g i) H
section
variable {X:Cx} {a b c:Expr} {ta tb tc:TE} {pos:Pos}
theorem binT (ha:PE X a ta) (hb:PE X b tb) {pins:List (Addr × Obj)} {s:Shared} {σ:St} {H:Hp} {R:V→V→Hp→Prop} (I:Inv X pins σ H s)
  (h:ta σ H fun x H1=>tb σ H1 fun y H2=>R x y H2) {Q:Value→Shared→Prop} {f:Value→Value→Sem Value}
  (hf:∀ v u s2 x y H2,Inv X pins σ H2 s2→RelV x v→RelV y u→R x y H2→wpAny (model X.prog X.w) X.A (f v u) Q X.xe s2) :
  wpAny (model X.prog X.w) X.A (eval a X.env) (fun v s₁=>wpAny (model X.prog X.w) X.A (eval b X.env) (fun u s₂=>wpAny (model X.prog X.w) X.A (f v u) Q X.xe s₂) X.xe s₁) X.xe s:=by
 refine thn (ha pins s σ H _ I h) fun v s1 ⟨x,H1,I1,r1,q1⟩=>?_
 refine thn (hb pins s1 σ H1 _ I1 q1) fun u s2 ⟨y,H2,I2,r2,q2⟩=>?_
 exact hf v u s2 x y H2 I2 r1 r2 q2
theorem zue {op:Operator} {r:R2} (ho:OpR X (binaryOp op) r) (ha:PE X a ta) (hb:PE X b tb):PE X (.BinOp a op b pos) (tOp r ta tb):=by
 intro pins s σ H Q I h
 exact wpAny_BinOp (binT ha hb I h fun v u s2 x y H2 I2 rx ry q=>ho pins s2 σ H2 x y v u Q I2 rx ry q)
theorem ztF {op:UnaryOp} {r:V→Hp→VK→Prop} (ho:UnR X (unaryOp op) r) (ha:PE X a ta):PE X (.UnaryOp op a pos) (tUn r ta):=by
 intro pins s σ H Q I h
 exact UnaryOp_ (thn (ha pins s σ H _ I h) fun v s1 ⟨x,H1,I1,r1,q1⟩=>ho pins s1 σ H1 x v Q I1 r1 q1)
theorem opI {f:Value→Value→Sem Value} {C:Int→Int→Prop} {g:Int→Int→Int}
  (rule:∀ (i j:Int) (t u:Tok) (s:Shared) (Q:Value→Shared→Prop) (E:Value→Shared→Prop),C i j→Q (.int (g i j) s.toks) { s with toks:=s.toks + 1 }→wpAny (model X.prog X.w) X.A (f (.int i t) (.int j u)) Q E s) :
  OpR X f (rI C fun i j => .int (g i j)):=by
 intro pins s σ H x y v u Q I rx ry h
 obtain ⟨i,j,rfl,rfl,hc,q⟩:=h
 obtain ⟨t,rfl⟩:=rx
 obtain ⟨t',rfl⟩:=ry
 exact rule i j t t' s _ _ hc ⟨.int (g i j),H,I.tok _,⟨_,rfl⟩,q⟩
theorem opI0 {f:Value→Value→Sem Value} {g:Int→Int→Int}
  (rule:∀ (i j:Int) (t u:Tok) (s:Shared) (Q:Value→Shared→Prop) (E:Value→Shared→Prop),Q (.int (g i j) s.toks) { s with toks:=s.toks + 1 }→wpAny (model X.prog X.w) X.A (f (.int i t) (.int j u)) Q E s) :
  OpR X f (rI0 fun i j => .int (g i j)):=by
 intro pins s σ H x y v u Q I rx ry h
 obtain ⟨i,j,rfl,rfl,q⟩:=h
 obtain ⟨t,rfl⟩:=rx
 obtain ⟨t',rfl⟩:=ry
 exact rule i j t t' s _ _ ⟨.int (g i j),H,I.tok _,⟨_,rfl⟩,q⟩
theorem opB0 {f:Value→Value→Sem Value} {g:Int→Int→Bool}
  (rule:∀ (i j:Int) (t u:Tok) (s:Shared) (Q:Value→Shared→Prop) (E:Value→Shared→Prop),Q (.bool (g i j)) s→wpAny (model X.prog X.w) X.A (f (.int i t) (.int j u)) Q E s) :
  OpR X f (rI0 fun i j => .bl (g i j)):=by
 intro pins s σ H x y v u Q I rx ry h
 obtain ⟨i,j,rfl,rfl,q⟩:=h
 obtain ⟨t,rfl⟩:=rx
 obtain ⟨t',rfl⟩:=ry
 exact rule i j t t' s _ _ ⟨.bl (g i j),H,I,rfl,q⟩
def CDiv (i j:Int):Prop:=0 < j∧j < 1073741824
def CPow (i j:Int):Prop:=0 ≤ j∧j ≤ 1000000∧i.natAbs < 2 ^ 64
def CMul (i j:Int):Prop:=(-(2 ^ 64) < i∧i < 2 ^ 64)∨(-(2 ^ 64) < j∧j < 2 ^ 64)
theorem CMul.ok {i j:Int} (h:CMul i j):IntMulOk i j:=by
 rcases h with ⟨h1,h2⟩ | ⟨h1,h2⟩
 ·exact .of_left (intBits_le_64 h1 h2)
 ·exact .of_right (intBits_le_64 h1 h2)
theorem zrH:OpR X (binaryOp .Add) (rI0 fun i j => .int (i + j)):=opI0 fun _ _ _ _ _ _ _ q=>add_int q
theorem zsU:OpR X (binaryOp .Sub) (rI0 fun i j => .int (i - j)):=opI0 fun _ _ _ _ _ _ _ q=>sub_int q
theorem zrN:OpR X (binaryOp .Mult) (rI CMul fun i j => .int (i * j)):=opI fun _ _ _ _ _ _ _ hc q=>mul_int q hc.ok
theorem zqJ:OpR X (binaryOp .FloorDiv) (rI CDiv fun i j => .int (i / j)):=opI fun i j _ _ _ _ _ hc q=>by
 have h1:(0:Int) < j:=hc.1
 have h2:j < 1073741824:=hc.2
 exact floordiv_int (by omega) (by rw [Int.fdiv_eq_ediv_of_nonneg i (by omega)];exact q) (.inl (PyProof.noPylong_small (by omega)))
theorem zsE:OpR X (binaryOp .Mod) (rI (fun _ j=>0 < j) fun i j => .int (i % j)):=opI fun i j _ _ _ _ _ hc q=>by
 have h1:(0:Int) < j:=hc
 exact mod_int' (by omega) (by rw [Int.fmod_eq_emod_of_nonneg i (by omega)];exact q)
theorem unI {f:Value→Sem Value} {g:Int→Int}
  (rule:∀ (i:Int) (t:Tok) (s:Shared) (Q:Value→Shared→Prop) (E:Value→Shared→Prop),Q (.int (g i) s.toks) { s with toks:=s.toks + 1 }→wpAny (model X.prog X.w) X.A (f (.int i t)) Q E s) :
  UnR X f (rU fun i => .int (g i)):=by
 intro pins s σ H x v Q I rx h
 obtain ⟨i,rfl,q⟩:=h
 obtain ⟨t,rfl⟩:=rx
 exact rule i t s _ _ ⟨.int (g i),H,I.tok _,⟨_,rfl⟩,q⟩
theorem zrS:UnR X (unaryOp .USub) (rU fun i => .int (-i)):=unI fun _ _ _ _ _ q=>neg_int q
end
theorem zsJ {i j:Bool}:decide (V.bl i=V.bl j)=(i == j):=by
 rw [Bool.eq_iff_iff]
 simp
section
variable {X:Cx} {a b c:Expr} {ta tb tc:TE} {pos:Pos}
theorem zpu {pins:List (Addr × Obj)} {σ:St} {H:Hp} {s:Shared} {Q:VK} {k k':Bool} (I:Inv X pins σ H s) (q:Q (.bl k) H) (e:k=k'):EP X pins σ Q (.bool k') s:=by
 subst e
 exact ⟨.bl k,H,I,rfl,q⟩
theorem ztL:OpR X (compareOp .Lt) (rI0 fun i j => .bl (decide (i < j))):=opB0 fun _ _ _ _ _ _ _ q=>lt_int q
theorem zuh:OpR X (compareOp .LtE) (rI0 fun i j => .bl (decide (i ≤ j))):=opB0 fun _ _ _ _ _ _ _ q=>le_int q
theorem zt8:OpR X (compareOp .Gt) (rI0 fun i j => .bl (decide (j < i))):=opB0 fun _ _ _ _ _ _ _ q=>gt_int q
theorem zt1:OpR X (compareOp .GtE) (rI0 fun i j => .bl (decide (j ≤ i))):=opB0 fun _ _ _ _ _ _ _ q=>ge_int q
theorem zsH:OpR X (compareOp .Is) (fun x y H Q=>y = .non∧Q (.bl (decide (x = .non))) H):=by
 intro pins s σ H x y v u Q I rx ry h
 obtain ⟨rfl,q⟩:=h
 cases ry
 refine is_none_gen (zpu I q ?_)
 cases x <;> first
  | (cases rx;rfl)
  | (obtain ⟨t,rfl⟩:=rx;rfl)
theorem zrs:OpR X (compareOp .IsNot) (fun x y H Q=>y = .non∧Q (.bl (!decide (x = .non))) H):=by
 intro pins s σ H x y v u Q I rx ry h
 obtain ⟨rfl,q⟩:=h
 cases ry
 refine isnot_none_gen (zpu I q ?_)
 cases x <;> first
  | (cases rx;rfl)
  | (obtain ⟨t,rfl⟩:=rx;rfl)
theorem OpR.or {f:Value→Value→Sem Value} {r r':R2} (h:OpR X f r) (h':OpR X f r'):OpR X f (fun x y H Q=>r x y H Q∨r' x y H Q):=by
 intro pins s σ H x y v u Q I rx ry q
 rcases q with q | q
 ·exact h pins s σ H x y v u Q I rx ry q
 ·exact h' pins s σ H x y v u Q I rx ry q
theorem zam (b:Expr) {op:CmpOp} (h:op ≠ .In:=by decide) (h2:op ≠ .NotIn:=by decide):behindInMarks op b=false:=by
 have e1:(op == CmpOp.In)=false:=by cases op <;> first | rfl | exact absurd rfl h
 have e2:(op == CmpOp.NotIn)=false:=by cases op <;> first | rfl | exact absurd rfl h2
 cases b <;> simp [behindInMarks,e1,e2]
theorem zp2 {op:CmpOp} {r:R2} (ho:OpR X (compareOp op) r) (ha:PE X a ta) (hb:PE X b tb) (hm:behindInMarks op b=false):PE X (.Compare a [op] [b] pos) (tOp r ta tb):=by
 intro pins s σ H Q I h
 exact wpAny_Compare1 (binT ha hb I h fun v u s2 x y H2 I2 rx ry q=>ho pins s2 σ H2 x y v u Q I2 rx ry q) hm
def zrT (t:TE):TT:=fun σ H Q=>t σ H fun x H'=>∃ k,x = .bl k∧Q k H'
theorem zqT {op:CmpOp} {r:R2} (ho:OpR X (compareOp op) r) (ha:PE X a ta) (hb:PE X b tb) (hm:behindInMarks op b=false):PT X (.Compare a [op] [b] pos) (zrT (tOp r ta tb)):=by
 intro pins s σ H Q I h
 refine wpAny_isTrue_Compare1 (thn (ha pins s σ H _ I h) fun v s1 ⟨x,H1,I1,r1,q1⟩=>thn (hb pins s1 σ H1 _ I1 q1) fun u s2 ⟨y,H2,I2,r2,q2⟩ =>
  thn (ho pins s2 σ H2 x y v u _ I2 r1 r2 q2) fun c s3 ⟨z,H3,I3,r3,k,e,q3⟩=>?_) hm
 subst e
 cases r3
 exact wpAny_truthy_bool ⟨H3,I3,q3⟩
def zpt (r r':R2) (ta tb tc:TE):TE:=fun σ H Q=>ta σ H fun x H1=>tb σ H1 fun y H2=>r x y H2 fun z H3=>∃ k,z = .bl k ∧
 (if k=true then tc σ H3 fun w' H4=>r' y w' H4 Q else Q (.bl false) H3)
theorem zo1 {op op':CmpOp} {r r':R2} (ho:OpR X (compareOp op) r) (ho':OpR X (compareOp op') r') (ha:PE X a ta) (hb:PE X b tb) (hc:PE X c tc)
  (hm:lastMarks [op,op'] [b,c]=false:=by with_unfolding_all rfl):PE X (.Compare a [op,op'] [b,c] pos) (zpt r r' ta tb tc):=by
 intro pins s σ H Q I h
 refine Compare_chain (thn (ha pins s σ H _ I h) fun v s1 ⟨x,H1,I1,r1,q1⟩=>chain_link (thn (hb pins s1 σ H1 _ I1 q1) fun u s2 ⟨y,H2,I2,r2,q2⟩ =>
  thn (ho pins s2 σ H2 x y v u _ I2 r1 r2 q2) fun d s3 ⟨z,H3,I3,r3,k,e,q3⟩=>?_)) hm
 subst e
 cases r3
 refine wpAny_truthy_bool ?_
 cases k with
 | false=>exact ite_ff ⟨.bl false,H3,I3,rfl,q3⟩
 | true=>exact ite_tt (chain_last (thn (hc pins s3 σ H3 _ I3 q3) fun w' s4 ⟨z',H4,I4,r4,q4⟩=>ho' pins s4 σ H4 y z' u w' Q I4 r2 r4 q4))
theorem zjD:(sizeLine:Nat) < 2 ^ 63:=by rw [sizeLine_eq];decide
theorem vals1 {x:V} {us:List Value} (r:Vals [x] us):∃ u,us=[u]∧RelV x u:=by
 cases r with
 | cons r1 r2=>cases r2;exact ⟨_,rfl,r1⟩
theorem vals2 {x y:V} {us:List Value} (r:Vals [x,y] us):∃ u w',us=[u,w']∧RelV x u∧RelV y w':=by
 cases r with
 | cons r1 r2 =>
  cases r2 with
  | cons r3 r4=>cases r4;exact ⟨_,_,rfl,r1,r3⟩
theorem znL (hc:X.calm=true):zfo X (.builtin "max") (fun xs H Q=>∃ i j,xs=[.int i, .int j]∧Q (.int (if j > i then j else i)) H):=by
 intro pins s σ H xs us Q I r h
 obtain ⟨i,j,rfl,q⟩:=h
 obtain ⟨u,w',rfl,⟨t,rfl⟩,⟨t',rfl⟩⟩:=vals2 r
 refine max_two_ints (I.ok.hd hc) fun h' tk k=>⟨_,H,I.kept k,?_,q⟩
 by_cases hj:j > i
 ·rw [if_pos hj,if_pos hj];exact ⟨_,rfl⟩
 ·rw [if_neg hj,if_neg hj];exact ⟨_,rfl⟩
theorem zm0 (hc:X.calm=true):zfo X (.builtin "min") (fun xs H Q=>∃ i j,xs=[.int i, .int j]∧Q (.int (if j < i then j else i)) H):=by
 intro pins s σ H xs us Q I r h
 obtain ⟨i,j,rfl,q⟩:=h
 obtain ⟨u,w',rfl,⟨t,rfl⟩,⟨t',rfl⟩⟩:=vals2 r
 refine min_two_ints (I.ok.hd hc) fun h' tk k=>⟨_,H,I.kept k,?_,q⟩
 by_cases hj:j < i
 ·rw [if_pos hj,if_pos hj];exact ⟨_,rfl⟩
 ·rw [if_neg hj,if_neg hj];exact ⟨_,rfl⟩
theorem znK:zfo X (.type "int") (fun xs H Q=>(∃ i,xs=[.int i]∧Q (.int i) H)∨∃ k,xs=[.bl k]∧Q (.int (if k then 1 else 0)) H):=by
 intro pins s σ H xs us Q I r h
 rcases h with ⟨i,rfl,q⟩ | ⟨k,rfl,q⟩
 ·obtain ⟨u,rfl,t,rfl⟩:=vals1 r
  exact call_int_int ⟨.int i,H,I,⟨_,rfl⟩,q⟩
 ·obtain ⟨u,rfl,r1⟩:=vals1 r
  cases r1
  exact call_int_bool ⟨.int (if k then 1 else 0),H,I.tok _,⟨_,rfl⟩,q⟩
end
end L2
namespace L2
open PySem PySem.Spec PyProof.Rows
structure ObjM (h:Heap) (x dx C:Addr) (mA:Str→Option Value):Prop where
 obj:h.get? x=some (PySem.W.instObj C dx)
 ns:h.Ns1 dx mA
 ne:dx ≠ x
section
variable {prog:Program} {w:World} {A:Around} {E:Value→Shared→Prop} {s:Shared} {K:PySem.W.Frag} {x dx C f:Addr} {mA:Str→Option Value} {name:Str} {v:Value}
end
theorem RelO.some_of {v:V} {o:Option Value} (r:RelO (some v) o):∃ u,o=some u∧RelV v u:=by
 cases o with
 | none=>exact (show False from r).elim
 | some u=>exact ⟨u,rfl,r⟩
theorem znn {v:V} {u:Value} (r:RelV v u):PySem.W.handedIn u=true:=by
 cases v with
 | non=>cases (show u=Value.none from r);rfl
 | bl b=>cases (show u=Value.bool b from r);rfl
 | int i=>obtain ⟨t,e⟩:=(show ∃ t,u=Value.int i t from r);cases e;rfl
 | str x=>obtain ⟨t,e⟩:=(show ∃ t,u=Value.str x t from r);cases e;rfl
 | byt b=>obtain ⟨t,e⟩:=(show ∃ t,u=Value.bytes b t from r);cases e;rfl
 | flt b=>obtain ⟨t,e⟩:=(show ∃ t,u=Value.float b t from r);cases e;rfl
 | ref a=>cases (show u=Value.ref a from r);rfl
 | ty n=>cases (show u=Value.type n from r);rfl
section
variable {P:Program} {w:World} {H H':Hp} {h h':Heap} {a C dx:Addr} {fs fs':List (Str × V)}
end
structure Cls (K:PySem.W.Frag) (C:Addr):Prop where
 pg:PySem.W.plainGet K C Str.empty=true
 hd:PySem.W.hasDictIn K C=true
 po:PySem.W.plainOver K C=true
 sa:PySem.W.findIn K (.ref C) "__setattr__" = some (some (.builtin "object.__setattr__"))
theorem Cls.get {K:PySem.W.Frag} {C:Addr} (c:Cls K C) (f:Str):PySem.W.plainGet K C f=true:=c.pg
structure Con (K:PySem.W.Frag) (C:Addr) (f:Str) (v:V) (u:Value):Prop where
 at_:PySem.W.findIn K (.ref C) f=some (some u)
 rel:RelV v u
 get:PySem.W.specialIn K u "__get__" = some none
 cp:PySem.W.copiedNames.contains f=false
structure Meth (K:PySem.W.Frag) (C:Addr) (m:Str) (f:Addr):Prop where
 at_:PySem.W.findIn K (.ref C) m=some (some (.ref f))
 fn:PySem.W.isFn K (.ref f)=true
 kp:PySem.W.keepIn K (.ref f)=true
section
variable {X:Cx} {pins:List (Addr × Obj)} {σ:St} {H:Hp} {s:Shared} {a C dx:Addr} {fs:List (Str × V)} {f:Str} {v:V} {A:Around} {E:Value→Shared→Prop}
theorem Inv.made (I:Inv X pins σ H s):Inv X pins σ (upd (upd H s.heap.objs.size (.own (s.heap.objs.size + 1))) (s.heap.objs.size + 1) (.ins C s.heap.objs.size []))
  { s with heap:=(s.heap.push PySem.W.emptyDict).push (PySem.W.instObj C s.heap.objs.size) }:=by
 have e1:(s.heap.push PySem.W.emptyDict).get? s.heap.objs.size=some PySem.W.emptyDict:=Heap.get?_push_size s.heap rfl
 have e2:((s.heap.push PySem.W.emptyDict).push (PySem.W.instObj C s.heap.objs.size)).get? (s.heap.objs.size + 1)=some (PySem.W.instObj C s.heap.objs.size):=by
  have:=Heap.get?_push_size (s.heap.push PySem.W.emptyDict) (o:=PySem.W.instObj C s.heap.objs.size) rfl
  rwa [Heap.size_push] at this
 have e3:(s.heap.push PySem.W.emptyDict).Ns s.heap.objs.size (fun _=>none):=⟨PySem.W.emptyDict,#[],_,e1,rfl,(fun e he=>absurd he (by simp)),fun _=>rfl⟩
 have I1:=I.laid (a:=s.heap.objs.size) (o := .own (s.heap.objs.size + 1)) (h':=s.heap.push PySem.W.emptyDict) (t':=s.toks) (fun b u q=>Heap.get?_push_of_some _ q) (Nat.le_refl _) ⟨_,e1⟩
 refine I1.laid (a:=s.heap.objs.size + 1) (o := .ins C s.heap.objs.size []) (t':=s.toks) (fun b u q=>Heap.get?_push_of_some _ q) (Nat.le_of_eq (Heap.size_push _ _)) ?_
 have ne:s.heap.objs.size ≠ s.heap.objs.size + 1:=Nat.ne_of_lt (Nat.lt_succ_self _)
 refine ⟨by rw [zap ne,zaw],Nat.zero_le _,ne,e2,fun _=>none,(Heap.Ns1.of_empty e3).at fun o q=>Heap.get?_push_of_some _ q,fun _=>True.intro,fun y hy=>absurd rfl hy⟩
theorem zm1 {prog:Program} {w:World} {env:Env} {e:Expr} {f:Str} {pos:Pos} {s:Shared} {Q:Value→Shared→Prop} (hb:attributeBase e f env (eval e env)=eval e env)
  (h:wpAny (model prog w) A (eval e env) (fun o s₁=>wpAny (model prog w) A (getAttr o f true) Q E s₁) E s):wpAny (model prog w) A (eval (.Attribute e f pos) env) Q E s :=
 Attribute_any_ h (by rw [arm_eval_Attribute,hb])
end
section
variable {X:Cx} {o e value:Expr} {f:Str} {pos pos' tpos:Pos} {ta tv:TE}
end
section
variable {X:Cx} {pins:List (Addr × Obj)} {σ:St} {H:Hp} {s:Shared} {A:Around} {E:Value→Shared→Prop} {Q:Value→Shared→Prop} {c:Value} {b:Bool}
inductive TyOf (K:PySem.W.Frag) (H:Hp):V→Value→Prop where
 | non:TyOf K H .non (.type "NoneType")
 | bl (x:Bool):TyOf K H (.bl x) (.type "bool")
 | int (i:Int):TyOf K H (.int i) (.type "int")
 | str (x:Str):TyOf K H (.str x) (.type "str")
 | flt (x:UInt64):TyOf K H (.flt x) (.type "float")
 | lst {a:Addr} {xs:List V} (e:H a=some (.lst xs)):TyOf K H (.ref a) (.type "list")
 | frz {a:Addr} {o:Obj} {xs:List V} (e:H a=some (.frz o (.lst xs))):TyOf K H (.ref a) (.type "list")
 | tup {a:Addr} {xs:List V} (e:H a=some (.tup xs)):TyOf K H (.ref a) (.type "tuple")
 | dK {a:Addr} {kvs:List (Key × V)} (e:H a=some (.dK kvs)):TyOf K H (.ref a) (.type "dict")
 | dT {a:Addr} {kvs:List (List Key × V)} (e:H a=some (.dT kvs)):TyOf K H (.ref a) (.type "dict")
 | ins {a C dx:Addr} {fs:List (Str × V)} (e:H a=some (.ins C dx fs)) (cl:Cls K C) (ha:PySem.W.findIn K (.ref C) "__class__" = some (some (.builtin "object.__class__")))
   (hn:PySem.W.specialIn K (.builtin "object.__class__") "__get__" = some (some (.builtin "getset_descriptor.__get__"))) (htk:PySem.W.takesIn K (.builtin "object.__class__")=some true)
   (hm:PySem.W.mroIn K C (.type "object")=some true):TyOf K H (.ref a) (.ref C)
end
end L2
namespace L2
open PySem PySem.Spec PyProof.Rows
structure Room (k:Nat) (A:Around):Prop where
 hd:A.handled=none
 dp:A.depth + 3 * k + 5 < recursionLimit
 un:A.units + 16 * k + 200 < cLine
theorem Room.mono {j k:Nat} {A:Around} (r:Room k A) (h:j ≤ k):Room j A:=⟨r.hd,by have:=r.dp;omega,by have:=r.un;omega⟩
theorem Room.deeper {k:Nat} {A:Around} (r:Room (k + 1) A) (env:Env):Room k (A.deeper env) :=
 ⟨r.hd,by have:=r.dp;show A.depth + 1 + 3 * k + 5 < _;omega,by have:=r.un;show A.units + 3 + 16 * k + 200 < _;omega⟩
theorem zl9 {A:Around} {C:Addr} {us:List Value} {kw:List (Str × Value)}:(A.under (.builtin "type.__call__" ⟨.ref C :: us,kw⟩)).depth=A.depth + 1:=by
 first | rfl | simp [Around.under,Code.weight,Code.isCreation,Code.isGuard,Code.isCaller,Code.frames,Code.isFrame,guardIds]
theorem zlT {A:Around} {C:Addr} {us:List Value} {kw:List (Str × Value)}:(A.under (.builtin "type.__call__" ⟨.ref C :: us,kw⟩)).units=A.units + 1:=by
 first | rfl | simp [Around.under,Code.cUnits,Code.frames,Code.isFrame]
theorem Room.make {k:Nat} {A:Around} (r:Room (k + 1) A) (C:Addr) (us:List Value) (kw:List (Str × Value)):Room k (A.under (.builtin "type.__call__" ⟨.ref C :: us,kw⟩)) :=
 ⟨r.hd,by have:=r.dp;rw [zl9];omega,by have:=r.un;rw [zlT];omega⟩
theorem Room.depth {k:Nat} {A:Around} (r:Room k A):A.depth < recursionLimit:=by have:=r.dp;omega
theorem Room.units {k:Nat} {A:Around} (r:Room k A):A.units + 64 < cLine:=by have:=r.un;omega
def tNil:TA:=fun _ H Q=>Q [] H
def znv (ta:TE) (tr:TA):TA:=fun σ H Q=>ta σ H fun x H1=>tr σ H1 fun xs H2=>Q (x :: xs) H2
section
variable {X:Cx} {e:Expr} {es:List Expr} {te:TE} {t:TA} {pos:Pos}
theorem zlF:PA X [] tNil:=fun _ _ _ _ H Q I h=>Calls.spliced_nil ⟨[],H,I, .nil,h⟩
theorem zgv (ha:PE X e te) (hr:PA X es t) (hs:starEach (e :: es) X.env=(false,eval e X.env) :: starEach es X.env:=by rfl):PA X (e :: es) (znv te t):=by
 intro pos pins s σ H Q I h
 rw [hs]
 show wpAny _ _ (spliced ((false,eval e X.env) :: backTo pos (starEach es X.env))) _ _ s
 refine Calls.spliced_cons (thn (ha pins s σ H _ I h) fun u s1 ⟨x,H1,I1,r1,q1⟩=>?_)
 exact thn (hr pos pins s1 σ H1 _ I1 q1) fun us s2 ⟨xs,H2,I2,r2,q2⟩=>⟨x :: xs,H2,I2, .cons r1 r2,q2⟩
def tTup (t:TA):TE:=fun σ H Q=>t σ H fun xs H1=>xs.length ≤ sizeLine∧∀ p,H1 p=none→Q (.ref p) (upd H1 p (.tup xs))
def tLst (t:TA):TE:=fun σ H Q=>t σ H fun xs H1=>xs.length ≤ sizeLine∧∀ p,H1 p=none→Q (.ref p) (upd H1 p (.lst xs))
theorem zsd {x1} (h:PA X es t):PE X (.Tuple es x1 pos) (tTup t):=by
 intro pins s σ H Q I hq
 refine wpAny_Tuple_spliced (thn (h pos pins s σ H _ I hq) fun us s1 ⟨xs,H1,I1,r,z,q⟩=>⟨by rw [← r.length];exact z,?_⟩)
 have hf:H1 s1.heap.objs.size=none:=I1.hok.fresh (Nat.le_refl _)
 refine ⟨.ref s1.heap.objs.size,upd H1 s1.heap.objs.size (.tup xs),I1.laid (t':=s1.toks) (fun b u e=>Heap.get?_push_of_some _ e) (Nat.le_refl _) ?_,rfl,q _ hf⟩
 exact ⟨z,us,r,⟨_,Heap.get?_push_size _ rfl,rfl,_,rfl⟩⟩
theorem zrJ (h:PA X es t):PE X (.List es pos) (tLst t):=by
 intro pins s σ H Q I hq
 refine wpAny_List_spliced (thn (h pos pins s σ H _ I hq) fun us s1 ⟨xs,H1,I1,r,z,q⟩=>⟨by rw [← r.length];exact z,?_⟩)
 have hf:H1 s1.heap.objs.size=none:=I1.hok.fresh (Nat.le_refl _)
 refine ⟨.ref s1.heap.objs.size,upd H1 s1.heap.objs.size (.lst xs),I1.laid (t':=s1.toks) (fun b u e=>Heap.get?_push_of_some _ e) (Nat.le_refl _) ?_,rfl,q _ hf⟩
 exact ⟨z,us,0,r,Heap.get?_push_size _ rfl⟩
end
abbrev Sp:=List V→Hp→VK→XK→Prop
abbrev CXT:=List Env→Hp→Shared→XK→Value→Shared→Prop
structure Env0 (P:Program) (w:World) (K:PySem.W.Frag) (mg:Str→Option Value) (base:Heap) (A:Around) (outer:List Env) (s:Shared) (H:Hp):Prop where
 frames:A.frames=some outer
 mod:Mod K mg base
 bs:∀ b o,base.get? b=some o→s.heap.get? b=some o∧H b=none
 bsz:base.objs.size ≤ s.heap.objs.size
 funs:s.heap.FunFrames base outer
 frf:∀ b ∈ frs outer,H b=none
 hok:HOk P w H s.heap
 bare:AllBare s.gens
def CE (outer:List Env) (P:Program) (w:World) (H:Hp) (s:Shared) (Q:VK) (u:Value) (s':Shared):Prop :=
 ∃ v H',s'.os=s.os∧AllBare s'.gens∧Un (frs outer) [] H H' s.heap s'.heap∧HOk P w H' s'.heap∧RelV v u∧Q v H'
def CR (CX:CXT) (outer:List Env) (P:Program) (w:World) (H:Hp) (s:Shared) (Q:VK) (E:XK) (r:Result) (s':Shared):Prop :=
 match r with
 | .ok (.ret u)=>CE outer P w H s Q u s'
 | .ok _=>False
 | .error e=>CX outer H s E e s'
structure FnOk (P:Program) (w:World) (K:PySem.W.Frag) (mg:Str→Option Value) (base:Heap) (CX:CXT) (k:Nat) (f:Addr) (fd:FuncData) (ps:List Str) (sp:Sp):Prop where
 len:∀ vs H Q E,sp vs H Q E→vs.length=ps.length
 run:∀ (A:Around) (outer:List Env) (s:Shared) (H:Hp) (args:Args) (us:List Value) (vs:List V) (Q:VK) (E:XK),Room k A→Env0 P w K mg base A outer s H→BindsTo s fd args (ps.zip us)→Vals vs us→sp vs H Q E →
  codeAny (model P w) A (.call (.ref f) args) (CR CX outer P w H s Q E) s
theorem FnOk.mono {P:Program} {w:World} {K:PySem.W.Frag} {mg:Str→Option Value} {base:Heap} {CX:CXT} {j k:Nat} {f:Addr} {fd:FuncData} {ps:List Str} {sp:Sp} (F:FnOk P w K mg base CX j f fd ps sp) (h:j ≤ k) :
  FnOk P w K mg base CX k f fd ps sp:=⟨F.len,fun A outer s H args us vs Q E hr=>F.run A outer s H args us vs Q E (hr.mono h)⟩
theorem FnOk.imp {P:Program} {w:World} {K:PySem.W.Frag} {mg:Str→Option Value} {base:Heap} {CX:CXT} {k:Nat} {f:Addr} {fd:FuncData} {ps:List Str} {sp sp':Sp} (F:FnOk P w K mg base CX k f fd ps sp)
  (h:∀ vs H Q E,sp' vs H Q E→sp vs H Q E):FnOk P w K mg base CX k f fd ps sp' :=
 ⟨fun vs H Q E q=>F.len vs H Q E (h _ _ _ _ q),fun A outer s H args us vs Q E hr he hb hv hs=>F.run A outer s H args us vs Q E hr he hb hv (h _ _ _ _ hs)⟩
theorem Env0.make {P:Program} {w:World} {K:PySem.W.Frag} {mg:Str→Option Value} {base:Heap} {A:Around} {outer:List Env} {s:Shared} {H:Hp} (e:Env0 P w K mg base A outer s H) (C:Addr) (us:List Value) (kw:List (Str × Value)) :
  Env0 P w K mg base (A.under (.builtin "type.__call__" ⟨.ref C :: us,kw⟩)) outer s H:=⟨by first | exact e.frames | (simpa [Around.under,Code.envs,Code.isFrame,pushEnvs] using e.frames),e.mod,e.bs,e.bsz,e.funs,e.frf,e.hok,e.bare⟩
section
variable {X:Cx} {pins:List (Addr × Obj)} {σ:St} {H:Hp} {s s':Shared}
theorem Inv.env0 (I:Inv X pins σ H s):Env0 X.prog X.w X.K X.mg X.base X.A X.stack s H :=
 ⟨I.ok.frames,I.ok.mod,I.bs,Nat.le_trans I.ok.bsz I.sz,I.stack,I.zk6,I.hok,I.bare⟩
theorem Inv.after {Q:VK} {u:Value} (I:Inv X pins σ H s) (h:CE X.stack X.prog X.w H s Q u s'):EP X pins σ Q u s':=by
 obtain ⟨v,H',os,bare,un,hok,r,q⟩:=h
 obtain ⟨hh,g,d,t,os'⟩:=s'
 obtain rfl:os'=s.os:=os
 exact ⟨v,H',I.call (h':=hh) (g':=g) (d':=d) (t':=t) (ch:=[]) un hok bare (fun b z=>absurd z (by simp)),r,q⟩
end
def Binds (K:PySem.W.Frag) (fd:FuncData) (ps:List Str) (ds:List Value):Prop :=
 ∀ (s:Shared) (us:List Value),K.In s.heap→(us ++ ds).length=ps.length→BindsTo s fd ⟨us,[]⟩ (ps.zip (us ++ ds))
theorem Binds.all {K:PySem.W.Frag} {fd:FuncData} {ps:List Str} (h:∀ us:List Value,us.length=ps.length→bindArgs fd ⟨us,[]⟩ = pure (ps.zip us)):Binds K fd ps []:=fun s us _ hl=>by
 rw [List.append_nil] at hl ⊢
 exact .of_eq (h us hl)
section
variable {X:Cx} {CX:CXT} {k:Nat} {f C:Addr} {fd:FuncData} {ps:List Str} {sp:Sp} {dvs:List V} {ds:List Value} {E:XK} {x m:Str} {p pos apos:Pos} {e o:Expr} {es:List Expr} {ta:TE} {t:TA}
structure Mk (K:PySem.W.Frag) (C f:Addr):Prop where
 makes:PySem.W.makesIn K C=true
 init:PySem.W.findIn K (.ref C) "__init__" = some (some (.ref f))
 fn:PySem.W.isFn K (.ref f)=true
 kp:PySem.W.keepIn K (.ref C)=true
end
section
variable {X:Cx} {CX:CXT} {k:Nat} {f C:Addr} {fd:FuncData} {ps ks:List Str} {sp:Sp} {E:XK} {x m:Str} {p pos apos kpos:Pos} {e o:Expr} {es:List Expr} {kws:List Keyword} {te ta:TE} {t tk:TA} {nm:Option Str}
structure zun (K:PySem.W.Frag) (fd:FuncData) (ps ks:List Str) (g:List Value→List Value→List Value) (gV:List V→List V→List V):Prop where
 to:∀ (s:Shared) (us ws:List Value),K.In s.heap→(g us ws).length=ps.length→BindsTo s fd ⟨us,ks.zip ws⟩ (ps.zip (g us ws))
 rel:∀ {vs:List V} {us:List Value} {zs:List V} {ws:List Value},Vals vs us→Vals zs ws→Vals (gV vs zs) (g us ws)
variable {g:List Value→List Value→List Value} {gV:List V→List V→List V}
end
structure zaq (N P:List Str) (sc:Scope):Prop where
 kind:sc.kind = .function
 co:sc.isCoroutine=false
 gen:sc.isGenerator=false
 nd:N.Nodup
 pre:N.take P.length=P
 par:∀ x ∈ P,sc.names.lookup x=some .local∨sc.names.lookup x=some .cell
 nofree:∀ y ∈ sc.names,y.2 ≠ .free
theorem zj0 {kindOf:Str→Option NameKind} {x:Str}:∀ {binds:List (Str × Value)} {m:Str→Option Value},(∀ v,(x,v) ∉ binds)→bindL kindOf binds m x=m x
 | [],_,_=>rfl
 | (n,v) :: r,m,h=>by
  unfold bindL
  rw [zj0 fun w hw=>h w (List.mem_cons_of_mem _ hw)]
  split
  ·have:x ≠ n:=by rintro rfl;exact h v List.mem_cons_self
   simp [this]
  ·rfl
theorem zkj {kindOf:Str→Option NameKind} {x:Str}:∀ {binds:List (Str × Value)} {m:Str→Option Value},(∀ v,(x,v) ∉ binds)→bindC kindOf binds m x=m x
 | [],_,_=>rfl
 | (n,v) :: r,m,h=>by
  unfold bindC
  rw [zkj fun w hw=>h w (List.mem_cons_of_mem _ hw)]
  split
  ·rfl
  ·have:x ≠ n:=by rintro rfl;exact h v List.mem_cons_self
   simp [this]
theorem zj2 {kindOf:Str→Option NameKind} {x:Str} {v:Value}:∀ {P:List Str} {vs:List Value} {i:Nat} {m:Str→Option Value},P.Nodup→P[i]? = some x→vs[i]? = some v→kindOf x=some .local →
  bindL kindOf (P.zip vs) m x=some v
 | [],_,_,_,_,h,_,_=>by simp at h
 | _ :: _,[],_,_,_,_,h,_=>by simp at h
 | p :: P,w :: vs,0,m,nd,h1,h2,hk=>by
  simp at h1 h2;subst h1;subst h2
  show bindL kindOf ((p,w) :: P.zip vs) m p=_
  unfold bindL
  rw [zj0 fun v hv=>(List.nodup_cons.mp nd).1 (List.of_mem_zip hv).1,if_pos hk]
  simp
 | p :: P,w :: vs,i + 1,m,nd,h1,h2,hk=>by
  show bindL kindOf ((p,w) :: P.zip vs) m x=_
  unfold bindL
  exact zj2 (i:=i) (List.nodup_cons.mp nd).2 (by simpa using h1) (by simpa using h2) hk
theorem zj4 {kindOf:Str→Option NameKind} {x:Str} {v:Value}:∀ {P:List Str} {vs:List Value} {i:Nat} {m:Str→Option Value},P.Nodup→P[i]? = some x→vs[i]? = some v→kindOf x ≠ some .local →
  bindC kindOf (P.zip vs) m x=some v
 | [],_,_,_,_,h,_,_=>by simp at h
 | _ :: _,[],_,_,_,_,h,_=>by simp at h
 | p :: P,w :: vs,0,m,nd,h1,h2,hk=>by
  simp at h1 h2;subst h1;subst h2
  show bindC kindOf ((p,w) :: P.zip vs) m p=_
  unfold bindC
  rw [zkj fun v hv=>(List.nodup_cons.mp nd).1 (List.of_mem_zip hv).1,if_neg hk]
  simp
 | p :: P,w :: vs,i + 1,m,nd,h1,h2,hk=>by
  show bindC kindOf ((p,w) :: P.zip vs) m x=_
  unfold bindC
  exact zj4 (i:=i) (List.nodup_cons.mp nd).2 (by simpa using h1) (by simpa using h2) hk
def start (N:List Str) (vs:List V):St:=vs.map some ++ List.replicate (N.length - vs.length) none
def cxOf (CX:CXT) (P:Program) (w:World) (K:PySem.W.Frag) (mg:Str→Option Value) (base:Heap) (N:List Str) (qual:Str) (scope:Scope) (f:Addr) (cd:Value) (A:Around) (outer:List Env) (s:Shared) (H:Hp) (E:XK):Cx where
 prog:=P
 w:=w
 K:=K
 mg:=mg
 base:=base
 A:=A.deeper (envOfC qual scope s.heap.objs.size f cd)
 N:=N
 s₀:=s
 H₀:=H
 env:=envOfC qual scope s.heap.objs.size f cd
 outer:=outer
 stack:=envOfC qual scope s.heap.objs.size f cd :: outer
 ex:=[]
 calm:=true
 fn:=fun _=>true
 pn:=[]
 xe:=fun e s'=>wpAny (model P w) (A.deeper (envOfC qual scope s.heap.objs.size f cd)) (leaving (envOfC qual scope s.heap.objs.size f cd) e) (fun _ s''=>CX outer H s E e s'') (fun e' s''=>CX outer H s E e' s'') s'
theorem zlA {sc:Scope} {n:Nat} {x:Str} (h:sc.names.lookup x=some .cell):∃ c,(cellsFrom n sc.names []).lookup x=some c:=by
 have q:=PySem.W.cellsFrom_some sc.names n [] (.inl h)
 exact Option.isSome_iff_exists.mp q
theorem ze2 {CX:CXT} {P:Program} {w:World} {K:PySem.W.Frag} {mg:Str→Option Value} {base:Heap} {N ps:List Str} {qual:Str} {scope:Scope} {f:Addr} {cd:Value} {A:Around} {outer:List Env} {s s1:Shared} {H:Hp} {E:XK} {us:List Value} {vs:List V}
  (S:zaq N ps scope) (hd:A.handled=none) (e0:Env0 P w K mg base A outer s H) (hl:vs.length=ps.length) (r:Vals vs us)
  (x:InCallC s s.heap.objs.size (bindL (envOfC qual scope s.heap.objs.size f cd).kindOf (ps.zip us) fun _=>none) (cellsFrom (s.heap.objs.size + 1) scope.names []) (bindC (envOfC qual scope s.heap.objs.size f cd).kindOf (ps.zip us) fun _=>none) s1) :
  Inv (cxOf CX P w K mg base N qual scope f cd A outer s H E) [] (start N vs) H s1:=by
 have hpl:ps.length ≤ N.length:=by have:=congrArg List.length S.pre;rw [List.length_take] at this;omega
 obtain ⟨h1,tk,rfl,hk⟩:=x.done
 have noA:∀ b:Addr,b ∉ (cxOf CX P w K mg base N qual scope f cd A outer s H E).ex:=fun b z=>absurd (show b ∈ ([] : List Addr) from z) (by simp)
 refine ⟨⟨e0.mod,S.kind,rfl,rfl,Nat.le_refl _,fun y z c h1 h2=>?_,fun y hy=>?_,fun y c _ h=>?_,fun _=>hd,Around.frames_deeper e0.frames, .inr ⟨rfl,rfl⟩,fun b z=>absurd z (noA b),e0.bs,e0.bsz,fun b _ _=>noA b,fun b z=>absurd z (noA b),e0.funs,e0.frf⟩,
  rfl,e0.bare,Un.kept hk,⟨_,x.toInCall.ns,fun i y v h1 h2 h3=>?_⟩,fun y c h=>⟨_,x.cell y c h⟩,e0.hok.fresh (Nat.le_refl _),fun y c h=>?_,fun p hp=>absurd (show p ∈ ([] : List (Addr × Obj)) from hp) (by simp),e0.hok.kept hk,?_⟩
 ·exact name_of_addr x.apart (PySem.mem_of_lookup h1) (PySem.mem_of_lookup h2)
 ·have hy:scope.names.lookup y=some .cell∨scope.names.lookup y=some .free:=hy
  rcases hy with hy | hy
  ·exact zlA hy
  ·exact absurd rfl (S.nofree _ (PySem.mem_of_lookup hy))
 ·exact Nat.le_of_lt (x.above y c (PySem.mem_of_lookup h))
 ·have hi:i < vs.length:=by
   unfold start at h2
   by_cases hi:i < vs.length
   ·exact hi
   ·rw [List.getElem?_append_right (by simpa using hi)] at h2
    rw [List.getElem?_replicate] at h2
    split at h2 <;> cases h2
  have ha:vs[i]? = some v:=by
   unfold start at h2
   rw [List.getElem?_append_left (by simpa using hi),List.getElem?_map] at h2
   cases e:vs[i]? with
   | none=>rw [e] at h2;cases h2
   | some a=>rw [e] at h2;cases h2;rfl
  obtain ⟨u,hu,rv⟩:=r.get ha
  have hp:ps[i]? = some y:=by
   rw [← S.pre,List.getElem?_take_of_lt (by omega)];exact h1
  have ndP:ps.Nodup:=by rw [← S.pre];exact S.nd.sublist (List.take_sublist _ _)
  refine ⟨u,rv,?_⟩
  rcases S.par y (List.mem_of_getElem? hp) with k | k
  ·exact .inl ⟨k,zj2 ndP hp hu k⟩
  ·obtain ⟨c,e⟩:=zlA (n:=s.heap.objs.size + 1) k
   refine .inr ⟨.inl k,c,e,?_⟩
   have q:=x.cell y c e
   rw [zj4 ndP hp hu (by show scope.names.lookup y ≠ _;rw [k];decide)] at q
   exact q
 ·exact e0.hok.fresh (Nat.le_of_lt (x.above y c (PySem.mem_of_lookup h)))
 ·unfold start
  show _=N.length
  rw [List.length_append,List.length_map,List.length_replicate]
  omega
theorem zoG {CX:CXT} {P:Program} {w:World} {K:PySem.W.Frag} {mg:Str→Option Value} {base:Heap} {k:Nat} {f:Addr} {name qual:Str} {params:Arguments} {body:List Stmt} {scope:Scope} {dV kV doc pm cdv ct oc:Value} {an od:Option Addr}
  {osl:Array (Option Value)} {N ps:List Str} {sp:Sp} (lk:K.lookup f=some ⟨oc,od, .func (PySem.W.fnOf name qual params body scope dV kV doc pm an cdv ct),osl⟩) (hcd:PySem.W.codeIn K cdv qual=true) (S:zaq N ps scope)
  (len:∀ vs H Q E,sp vs H Q E→vs.length=ps.length)
  (hbody:∀ (A:Around) (outer:List Env) (s:Shared) (H:Hp) (vs:List V) (Q:VK) (E:XK),Room k (A.deeper (envOfC qual scope s.heap.objs.size f cdv))→sp vs H Q E →
   ∃ t,PSs (cxOf CX P w K mg base N qual scope f cdv A outer s H E) body t∧t { nx:=fun _ H'=>Q .non H',rt:=Q } (start N vs) H) :
  FnOk P w K mg base CX (k + 1) f (PySem.W.fnOf name qual params body scope dV kV doc pm an cdv ct) ps sp:=by
 refine ⟨len,fun A outer s H args us vs Q E hr e0 hb r hsp=>?_⟩
 have hl:=len _ _ _ _ hsp
 have KX:K.In s.heap:=e0.mod.kin.keeps fun b o e=>(e0.bs b o e).1
 have lim:s.heap.NoLimit:=e0.mod.nolimit.keeps fun b o e=>(e0.bs b o e).1
 have hkind:∀ y ∈ ps.zip us,scope.names.lookup y.1=some .local∨(scope.names.lookup y.1=some .cell∧((cellsFrom (s.heap.objs.size + 1) scope.names []).lookup y.1).isSome=true):=fun ⟨n,v⟩ hy=>by
  rcases S.par n (List.of_mem_zip hy).1 with q | q
  ·exact .inl q
  ·exact .inr ⟨q,PySem.W.cellsFrom_some _ _ _ (.inl q)⟩
 refine codeAny_call_function hr.depth (KX _ _ lk) rfl S.co S.gen rfl (PySem.W.codeRec_of KX hcd) (hb _ _ _ _ ?_)
 refine wpAny_newFunctionEnv_cells S.kind hkind fun env he s1 x=>?_
 subst he
 refine ⟨lim.keeps x.toInCall.keep,codeAny_func ?_⟩
 obtain ⟨t,ht,hq⟩:=hbody A outer s H vs Q E (hr.deeper _) hsp
 have I:Inv (cxOf CX P w K mg base N qual scope f cdv A outer s H E) [] (start N vs) H s1:=ze2 S hr.hd e0 hl r x
 refine wpAny_mono (ht [] s1 (start N vs) H _ I hq) (fun fl s' hs=>?_) fun e s' hs=>hs
 have fin:∀ {σ':St} {H':Hp} {v:V} {u:Value},Inv (cxOf CX P w K mg base N qual scope f cdv A outer s H E) [] σ' H' s'→RelV v u→Q v H'→CE outer P w H s Q u s' :=
  fun {σ' H' v u} J rv q=>⟨v,H',J.os,J.bare,J.base,J.hok,rv,q⟩
 cases fl with
 | ret u =>
  obtain ⟨v,σ',H',J,rv,q⟩:=hs
  exact fin J rv q
 | next =>
  obtain ⟨σ',H',J,q⟩:=hs
  exact fin (v:=V.non) (u:=Value.none) J rfl q
 | brk =>
  obtain ⟨_,_,_,q⟩:=hs
  exact False.elim q
 | cont =>
  obtain ⟨_,_,_,q⟩:=hs
  exact False.elim q
end L2
namespace L2
open PySem PySem.Spec PyProof.Rows
section
variable {X:Cx} {x:Str} {p pos:Pos} {e:Expr} {es:List Expr} {t:TA} {id T:String} {r:List V→Hp→VK→Prop}
def tCB (r:List V→Hp→VK→Prop) (t:TA):TE:=fun σ H Q=>t σ H fun vs H1=>r vs H1 Q
theorem zoZ (hc:zfo X (.builtin id) r) (hg:Gl X x) (hm:X.mg x=none) (hv:bootBuiltins x=some (.builtin id)) (ha:PA X (e :: es) t) (hn:x ≠ "__name__":=by decide) (hdb:(x == ("__debug__" : Str))=false:=by decide)
  (he:starEach (e :: es) X.env=(false,eval e X.env) :: starEach es X.env:=by rfl) (hpl:(backTo pos (starEach es X.env)).any (·.1)=false:=by rfl):PE X (.Call (.Name x p) (e :: es) [] pos) (tCB r t):=by
 intro pins s σ H Q I h
 refine wpAny_Call_Name_kw (zkg I hg hm hv ?_ hn hdb)
 exact PyProof.Rows.callWith_builtin1 (thn (ha pos pins s σ H _ I h) fun us s1 ⟨vs,H1,I1,r1,q1⟩=>hc pins s1 σ H1 vs us Q I1 r1 q1) he hpl
theorem zmI (hc:zfo X (.type T) r) (hg:Gl X x) (hm:X.mg x=none) (hv:bootBuiltins x=some (.type T)) (ha:PA X (e :: es) t) (hn:x ≠ "__name__":=by decide) (hdb:(x == ("__debug__" : Str))=false:=by decide)
  (he:starEach (e :: es) X.env=(false,eval e X.env) :: starEach es X.env:=by rfl) (hpl:(backTo pos (starEach es X.env)).any (·.1)=false:=by rfl):PE X (.Call (.Name x p) (e :: es) [] pos) (tCB r t):=by
 intro pins s σ H Q I h
 refine wpAny_Call_Name_kw (zkg I hg hm hv ?_ hn hdb)
 exact PyProof.Rows.callWith_type1 (thn (ha pos pins s σ H _ I h) fun us s1 ⟨vs,H1,I1,r1,q1⟩=>hc pins s1 σ H1 vs us Q I1 r1 q1) he hpl
end
end L2
namespace HT
open PySem PyProof.Rows
section
open PySem.SeqAt
open PySem.AutoSeq1 (wpAny_loadPart')
open PySem.MeetsSeq PySem.MeetsSeq2 PySem.MeetsSeq3
end
section
variable {prog:Program} {w:World} {A:Around} {E:Value→Shared→Prop} {s:Shared}
theorem zp8 {t b:Addr} {vs ws:List Value} {Q:Value→Shared→Prop} (ht:IsTup s.heap t vs.toArray) (hb:IsTup s.heap b ws.toArray) (hv:vs ≠ [])
  (h1:ws=[]→Q (.ref t) s) (h2:ws ≠ []→Q (.ref s.heap.objs.size) { s with heap:=s.heap.push { cls := .type "tuple",data := .seq (vs ++ ws).toArray } })
  (hsz:vs.length + ws.length ≤ sizeLine):wpAny (model prog w) A (binaryOp .Add (.ref t) (.ref b)) Q E s:=by
 obtain ⟨⟨cls,dd,data,sl⟩,ho,hc,n,hd⟩:=id ht
 obtain ⟨⟨cls2,dd2,data2,sl2⟩,ho2,hc2,n2,hd2⟩:=id hb
 simp only at hc hd hc2 hd2
 subst hc hd hc2 hd2
 have e:vs.toArray ++ ws.toArray=(vs ++ ws).toArray:=by simp
 by_cases hw:ws=[]
 ·exact concat_meets ⟨_,ho,rfl⟩ ⟨_,ho2,rfl⟩ noFill_tuple_add seq_tuple_add PySem.F.slot_tuple_add PySem.F.entry_tuple_add (PySem.F.args_tuple_add_2 _ _)
   (tuple_addW1 t b vs.toArray ws.toArray n n2 dd dd2 sl sl2 (by simpa using hv) (by simp [hw])) ⟨ho,ho2,h1 hw⟩
 ·refine concat_meets ⟨_,ho,rfl⟩ ⟨_,ho2,rfl⟩ noFill_tuple_add seq_tuple_add PySem.F.slot_tuple_add PySem.F.entry_tuple_add (PySem.F.args_tuple_add_2 _ _)
   (tuple_addW2 t b vs.toArray ws.toArray n n2 dd dd2 sl sl2 (by simpa using hv) (by simpa using hw) (by rw [List.size_toArray,List.size_toArray];exact hsz)) ⟨ho,ho2,?_⟩
  rw [e]
  exact h2 hw
def sIx (n d:Nat):Option Int→Nat
 | none=>d
 | some v=>if v < 0 then (v + (n:Int)).toNat else min v.toNat n
theorem zo0 (n d:Nat):sIx n d none=d:=rfl
theorem zkX (n d k:Nat):sIx n d (some (k:Int))=min k n:=by
 show (if (k:Int) < 0 then ((k:Int) + (n:Int)).toNat else min (k:Int).toNat n)=min k n
 rw [if_neg (by omega),Int.toNat_natCast]
theorem zsn (n d:Nat) (hd:d ≤ n) (o:Option Int):sIx n d o ≤ n:=by
 cases o with
 | none=>exact hd
 | some v =>
  show (if v < 0 then (v + (n:Int)).toNat else min v.toNat n) ≤ n
  by_cases hv:v < 0
  ·rw [if_pos hv];omega
  ·rw [if_neg hv];exact Nat.min_le_right _ _
theorem zod (v:Int) (n d:Nat):(if v < 0 then max (v + (n:Int)) 0 else min v (n:Int))=((sIx n d (some v):Nat):Int):=by
 show (if v < 0 then max (v + (n:Int)) 0 else min v (n:Int))=(((if v < 0 then (v + (n:Int)).toNat else min v.toNat n):Nat):Int)
 by_cases hv:v < 0
 ·simp only [if_pos hv];omega
 ·simp only [if_neg hv];omega
theorem zmp (lo hi:Option Int) (n:Nat):Builtin.Slice.sliceAdjust lo hi 1 (n:Int)=(((sIx n 0 lo:Nat):Int),((sIx n n hi:Nat):Int)):=by
 have h1:¬ ((1:Int) < 0):=by omega
 unfold Builtin.Slice.sliceAdjust
 simp only [h1,if_false]
 refine Prod.ext ?_ ?_
 ·cases lo with
  | none=>rfl
  | some v=>exact zod v n 0
 ·cases hi with
  | none=>rfl
  | some v=>exact zod v n n
theorem zme (i j:Nat):Builtin.Slice.slicePlaces (i:Int) (j:Int) 1=j - i:=by
 unfold Builtin.Slice.slicePlaces
 have h1:(1:Int) > 0:=by omega
 simp only [h1,if_true,Int.ediv_one]
 split <;> omega
theorem zic {v:Value} {o:Option Int} {Q:Option Int→Shared→Prop} (p:IsPart v o) (h:Q o s):wpAny (model prog w) A (Builtin.Slice.slicePartIndex v) Q E s:=by
 cases p with
 | none=>exact slicePart_none h
 | int i t=>exact slicePart_int h
theorem zgT {sl:Addr} {vl vu:Value} {lo hi:Option Int} {n:Nat} {Q:Int × Int × Nat→Shared→Prop} (hs:s.heap.IsSliceOf sl vl vu .none) (pl:IsPart vl lo) (pu:IsPart vu hi)
  (h:Q (((sIx n 0 lo:Nat):Int),1,sIx n n hi - sIx n 0 lo) s):wpAny (model prog w) A (Builtin.Slice.sliceApplied (.ref sl) (pure (n:Int))) Q E s:=by
 obtain ⟨os,hos,hcs,hds⟩:=id hs
 unfold Builtin.Slice.sliceApplied Builtin.Slice.sliceFields
 refine wpAny_bind (wpAny_bind (wpAny_field hos hds (x:=vl) rfl (wpAny_bind (wpAny_field hos hds (x:=vu) rfl (wpAny_bind (wpAny_field hos hds (x := .none) rfl (wpAny_pure ?_)))))))
 refine wpAny_bind (slicePart_none ?_)
 show wpAny _ _ (if ((1:Int) == 0)=true then _ else _) _ _ s
 rw [if_neg (by decide)]
 refine wpAny_bind (zic pl (wpAny_bind (zic pu (wpAny_bind (wpAny_pure ?_)))))
 show wpAny _ _ (match Builtin.Slice.sliceAdjust lo hi 1 (n:Int) with | (lo,hi)=>pure (lo,(1:Int),Builtin.Slice.slicePlaces lo hi 1)) _ _ s
 rw [zmp lo hi n]
 show wpAny _ _ (pure (((sIx n 0 lo:Nat):Int),(1:Int),Builtin.Slice.slicePlaces ((sIx n 0 lo:Nat):Int) ((sIx n n hi:Nat):Int) 1)) _ _ s
 rw [zme]
 exact wpAny_pure h
theorem zph (xs:Array Value) (i k:Nat):((List.range k).filterMap fun (m:Nat)=>xs[((i:Int) + (m:Int) * 1).toNat]?).toArray=((xs.toList.drop i).take k).toArray:=by
 have e:(fun (m:Nat)=>xs[((i:Int) + (m:Int) * 1).toNat]?)=fun m=>xs[i + m]?:=by
  funext m
  have:((i:Int) + (m:Int) * 1).toNat=i + m:=by omega
  rw [this]
 rw [e]
 have:=pick_run xs i k
 rw [List.filterMap_map] at this
 have e2:((fun x=>xs[x]?) ∘ fun x=>i + x)=fun m=>xs[i + m]?:=rfl
 rw [e2] at this
 rw [this]
theorem zgw {t sl:Addr} {items:Array Value} {vl vu:Value} {lo hi:Option Int} {Q:Value→Shared→Prop} (ht:IsTup s.heap t items) (hs:s.heap.IsSliceOf sl vl vu .none) (pl:IsPart vl lo) (pu:IsPart vu hi)
  (hw:¬ (sIx items.size 0 lo=0∧sIx items.size items.size hi=items.size))
  (h:Q (.ref s.heap.objs.size) { s with heap:=s.heap.push { cls := .type "tuple",data := .seq ((items.toList.drop (sIx items.size 0 lo)).take (sIx items.size items.size hi - sIx items.size 0 lo)).toArray } })
  (hsz:items.size ≤ sizeLine):wpAny (model prog w) A (getItem (.ref t) (.ref sl)) Q E s:=by
 have htake:sizeOk (.seq ((items.toList.drop (sIx items.size 0 lo)).take (sIx items.size items.size hi - sIx items.size 0 lo)).toArray):=by
  show ((items.toList.drop (sIx items.size 0 lo)).take (sIx items.size items.size hi - sIx items.size 0 lo)).toArray.size ≤ sizeLine
  rw [List.size_toArray,List.length_take,List.length_drop,Array.length_toList]
  omega
 have hj:sIx items.size items.size hi ≤ items.size:=zsn _ _ (Nat.le_refl _) hi
 obtain ⟨os,hos,hcs,hds⟩:=id hs
 have hTs:s.TypeIs (.ref sl) "slice":=⟨os,hos,hcs⟩
 unfold getItem
 try with_reducible refine wpAny_holding ?_
 first | refine wpAny_bind (wpAny_pure ?_) | skip
 refine wpAny_bind (wpAny_sequenceKey ht.typeIs (by decide) ?_)
 refine wpAny_bind (wpAny_callSpecial?_slot (name:=Str.ofString "__getitem__") ht.typeIs PyProof.Rows.slot_tuple_getitem
  (wpAny_call_entry PyProof.Rows.slot_tuple_getitem ht.typeIs entry_tuple_getitem ?_ (args_tuple_getitem _ _)))
 show wpAny _ _ (Builtin.Tuple.tupleItemsOf (.ref t) >>= _) _ _ s
 refine wpAny_bind (tupleItemsOf_ ht ?_)
 refine wpAny_bind (wpAny_typeOf hTs ?_)
 rw [if_pos (by decide)]
 refine wpAny_bind (zgT hs pl pu ?_)
 have hno:¬ ((((sIx items.size 0 lo:Nat):Int) == 0 && (1:Int) == 1 && (sIx items.size items.size hi - sIx items.size 0 lo) == items.size)=true):=by
  intro q
  rw [Bool.and_eq_true,Bool.and_eq_true] at q
  have q1:((sIx items.size 0 lo:Nat):Int)=0:=eq_of_beq q.1.1
  have q2:sIx items.size items.size hi - sIx items.size 0 lo=items.size:=eq_of_beq q.2
  exact hw ⟨by omega,by omega⟩
 show wpAny _ _ (if (((sIx items.size 0 lo:Nat):Int) == 0 && (1:Int) == 1 && (sIx items.size items.size hi - sIx items.size 0 lo) == items.size)=true then _ else _) _ _ s
 rw [if_neg hno,zph]
 first
  | exact wpAny_bind (m:=Builtin.Tuple.tupleExact _) (wpAny_newObj_type (wpAny_pure ⟨_,rfl,wpAny_pure h⟩) htake)
  | exact wpAny_bind (m:=Builtin.Tuple.tupleExact _) (wpAny_newObj_type (wpAny_bind (wpAny_pure (wpAny_pure ⟨_,rfl,wpAny_pure h⟩))) htake)
  | exact wpAny_bind (wpAny_bind (m:=Builtin.Tuple.tupleExact _) (wpAny_newObj_type (wpAny_pure (wpAny_pure ⟨_,rfl,wpAny_pure h⟩)) htake))
  | exact wpAny_bind (wpAny_bind (m:=Builtin.Tuple.tupleExact _) (wpAny_newObj_type (wpAny_pure ⟨_,rfl,wpAny_pure h⟩) htake))
end
end HT
namespace L2
open PySem PySem.Spec PyProof.Rows
abbrev TO:=St→Hp→(Option Int→Hp→Prop)→Prop
def PO (X:Cx) (e:Option Expr) (t:TO):Prop :=
 ∀ (pins:List (Addr × Obj)) (s:Shared) (σ:St) (H:Hp) (Q:Option Int→Hp→Prop),Inv X pins σ H s→t σ H Q →
  wpAny (model X.prog X.w) X.A (evalPart e X.env) (fun u s'=>∃ o H',Inv X pins σ H' s'∧IsPart u o∧Q o H') X.xe s
def zqA:TO:=fun _ H Q=>Q none H
def ztn (t:TE):TO:=fun σ H Q=>t σ H fun x H1=>∃ i,x = .int i∧Q (some i) H1
theorem intsAre_of {ns:List Int}:∀ {us:List Value},Vals (ns.map V.int) us→IntsAre us ns:=by
 induction ns with
 | nil=>intro us r;rw [List.map_nil] at r;cases r;exact .nil
 | cons n ns ih =>
  intro us r
  rw [List.map_cons] at r
  cases r with
  | cons r1 r2 =>
   obtain ⟨t,e⟩:=r1
   subst e
   exact .cons n t (ih r2)
section
variable {X:Cx} {e:Expr} {te:TE} {lo hi:Option Expr} {tl th:TO} {pos p2:Pos}
theorem zqQ:PO X none zqA:=by
 intro pins s σ H Q I h
 rw [evalPart_none]
 exact wpAny_pure ⟨none,H,I, .none,h⟩
theorem zqD (h:PE X e te):PO X (some e) (ztn te):=by
 intro pins s σ H Q I hw
 rw [evalPart_some]
 refine thn (h pins s σ H _ I hw) fun u s1 ⟨x,H1,I1,r1,q1⟩=>?_
 obtain ⟨i,rfl,q⟩:=q1
 obtain ⟨t,rfl⟩:=r1
 exact ⟨some i,H1,I1, .int i t,q⟩
def SlR (X:Cx) (r:V→Option Int→Option Int→Hp→VK→Prop):Prop :=
 ∀ (pins:List (Addr × Obj)) (s:Shared) (σ:St) (H:Hp) (x:V) (v vl vu:Value) (lo hi:Option Int) (sl:Addr) (Q:VK),Inv X pins σ H s→RelV x v→s.heap.IsSliceOf sl vl vu .none→IsPart vl lo→IsPart vu hi→r x lo hi H Q →
  ∃ T id,typeLookup (.type T) "__getitem__" = pure (some (.builtin id))∧s.TypeIs v T∧wpAny (model X.prog X.w) X.A (getItem v (.ref sl)) (EP X pins σ Q) X.xe s
theorem SlR.or {r r':V→Option Int→Option Int→Hp→VK→Prop} (h:SlR X r) (h':SlR X r'):SlR X (fun x lo hi H Q=>r x lo hi H Q∨r' x lo hi H Q):=by
 intro pins s σ H x v vl vu lo hi sl Q I rx hs pl pu q
 rcases q with q | q
 ·exact h pins s σ H x v vl vu lo hi sl Q I rx hs pl pu q
 ·exact h' pins s σ H x v vl vu lo hi sl Q I rx hs pl pu q
def tSl (r:V→Option Int→Option Int→Hp→VK→Prop) (te:TE) (tl th:TO):TE:=fun σ H Q=>te σ H fun x H1=>tl σ H1 fun l H2=>th σ H2 fun u H3=>r x l u H3 Q
theorem zpn {r:V→Option Int→Option Int→Hp→VK→Prop} (hr:SlR X r) (he:PE X e te) (hl:PO X lo tl) (hu:PO X hi th):PE X (.Subscript e (.Slice lo hi none p2) pos) (tSl r te tl th):=by
 intro pins s σ H Q I h
 refine Subscript_ (thn (he pins s σ H _ I h) fun v s1 ⟨x,H1,I1,r1,q1⟩=>?_)
 refine wpAny_Slice (thn (hl pins s1 σ H1 _ I1 q1) fun vl s2 ⟨l,H2,I2,pl,q2⟩=>thn (hu pins s2 σ H2 _ I2 q2) fun vu s3 ⟨u,H3,I3,pu,q3⟩=>?_)
 rw [evalPart_none]
 refine wpAny_pure ?_
 have I4:Inv X pins σ H3 { s3 with heap:=s3.heap.push { cls := .type "slice",data := .fields #[vl,vu, .none] } }:=I3.kept (t':=s3.toks) fun b ob q=>Heap.get?_push_of_some _ q
 obtain ⟨T,id,hT,ht,hg⟩:=hr pins { s3 with heap:=s3.heap.push { cls := .type "slice",data := .fields #[vl,vu, .none] } } σ H3 x v vl vu l u s3.heap.objs.size Q I4 r1 (Heap.IsSliceOf.new ..) pl pu q3
 show wpAny (model X.prog X.w) X.A (subscriptTail e (.Slice lo hi none p2) v (.ref s3.heap.objs.size)) (EP X pins σ Q) X.xe { s3 with heap:=s3.heap.push { cls := .type "slice",data := .fields #[vl,vu, .none] } }
 exact tail_any (ops:=[.ref s3.heap.objs.size,v]) ht hT hg (by with_unfolding_all rfl)
def cutV (xs:List V) (lo hi:Option Int):List V:=(xs.drop (HT.sIx xs.length 0 lo)).take (HT.sIx xs.length xs.length hi - HT.sIx xs.length 0 lo)
theorem zhB (xs:List V) (lo hi:Option Int):(cutV xs lo hi).length ≤ xs.length:=by
 unfold cutV
 rw [List.length_take,List.length_drop]
 omega
def rSlT (K:PySem.W.Frag):V→Option Int→Option Int→Hp→VK→Prop:=fun x lo hi H Q=>∃ a xs,x = .ref a∧SqT K H a xs ∧
 ¬ (HT.sIx xs.length 0 lo=0∧HT.sIx xs.length xs.length hi=xs.length)∧∀ p,H p=none→Q (.ref p) (upd H p (.tup (cutV xs lo hi)))
theorem zsR:SlR X (rSlT X.K):=by
 intro pins s σ H x v vl vu lo hi sl Q I rx hs pl pu h
 obtain ⟨a,xs,rfl,hx,hw,q⟩:=h
 cases rx
 obtain ⟨its,r,ht,hz⟩:=I.tuple hx
 have hlen:its.toArray.size=xs.length:=by rw [List.size_toArray];exact r.length.symm
 refine ⟨"tuple",_,PyProof.Rows.slot_tuple_getitem.lookup,ht.typeIs,?_⟩
 refine HT.zgw ht hs pl pu (by rw [hlen];exact hw) ?_ (by rw [hlen];exact hz)
 rw [hlen]
 refine ⟨.ref s.heap.objs.size,_,I.laid (t':=s.toks) (o := .tup (cutV xs lo hi)) (fun b ob q=>Heap.get?_push_of_some _ q) (Nat.le_refl _) ?_,rfl,q _ (I.hok.fresh (Nat.le_refl _))⟩
 exact ⟨Nat.le_trans (zhB xs lo hi) hz,_,(r.drop (HT.sIx xs.length 0 lo)).take (HT.sIx xs.length xs.length hi - HT.sIx xs.length 0 lo),IsTup.new _ _⟩
def zua (K:PySem.W.Frag):R2:=fun x y H Q=>∃ a b xs ys,x = .ref a∧y = .ref b∧SqT K H a xs∧SqT K H b ys∧xs ≠ []∧xs.length + ys.length ≤ sizeLine ∧
 (ys=[]→Q (.ref a) H)∧(ys ≠ []→∀ p,H p=none→Q (.ref p) (upd H p (.tup (xs ++ ys))))
theorem Vals.zlc {xs:List V} {us:List Value} (r:Vals xs us):us=[]↔xs=[]:=by
 cases r with
 | nil=>simp
 | cons _ _=>simp
theorem zq7:OpR X (binaryOp .Add) (zua X.K):=by
 intro pins s σ H x y v u Q I rx ry h
 obtain ⟨a,b,xs,ys,rfl,rfl,ha,hb,hx,hz,q1,q2⟩:=h
 cases rx
 cases ry
 obtain ⟨its,r1,p1,_⟩:=I.tuple ha
 obtain ⟨its2,r2,p2,_⟩:=I.tuple hb
 refine HT.zp8 p1 p2 (fun z=>hx (r1.zlc.mp z)) (fun z=>⟨.ref a,H,I,rfl,q1 (r2.zlc.mp z)⟩) (fun z=>?_) (by rw [← r1.length,← r2.length];exact hz)
 refine ⟨.ref s.heap.objs.size,_,I.laid (t':=s.toks) (o := .tup (xs ++ ys)) (fun b ob q=>Heap.get?_push_of_some _ q) (Nat.le_refl _) ?_,rfl,q2 (fun w=>z (r2.zlc.mpr w)) _ (I.hok.fresh (Nat.le_refl _))⟩
 exact ⟨by rw [List.length_append];exact hz,_,r1.append r2,IsTup.new _ _⟩
end
end L2
namespace L2
open PySem PySem.Spec PyProof.Rows
def ixN (n:Nat) (i:Int):Option Nat:=if 0 ≤ i then (if i < n then some i.toNat else none) else if -(n:Int) ≤ i then some (i + n).toNat else none
def atI {α:Type} (xs:List α) (i:Int):Option α:=(ixN xs.length i).bind fun j=>xs[j]?
theorem znE {n:Nat} {i:Int} {j:Nat} (h:ixN n i=some j):seqIndex? i n=some j∧j < n∧-(n:Int) ≤ i∧i < n:=by
 unfold ixN at h
 by_cases h0:0 ≤ i
 ·rw [if_pos h0] at h
  by_cases h1:i < n
  ·rw [if_pos h1] at h
   have e:i.toNat=j:=Option.some.inj h
   exact ⟨by rw [seqIndex_of h0 h1,e],by omega,by omega,h1⟩
  ·rw [if_neg h1] at h;cases h
 ·rw [if_neg h0] at h
  by_cases h1 : -(n:Int) ≤ i
  ·rw [if_pos h1] at h
   have e:(i + n).toNat=j:=Option.some.inj h
   exact ⟨by rw [seqIndex_neg (by omega) h1,e],by omega,h1,by omega⟩
  ·rw [if_neg h1] at h;cases h
theorem zkG {α:Type} {xs:List α} {i:Int} {v:α} (h:atI xs i=some v):∃ j,seqIndex? i xs.length=some j∧xs[j]? = some v∧j < xs.length∧-(xs.length:Int) ≤ i∧i < xs.length:=by
 unfold atI at h
 cases e:ixN xs.length i with
 | none=>rw [e] at h;cases h
 | some j =>
  rw [e] at h
  obtain ⟨h1,h2,h3,h4⟩:=znE e
  exact ⟨j,h1,h,h2,h3,h4⟩
def zn0 (b:Expr):Prop:=∀ o i,subscripted b false o i=operate [o,i] (getItem o i)
def IxR (X:Cx) (r:R2):Prop :=
 ∀ (value slice:Expr) (pins:List (Addr × Obj)) (s:Shared) (σ:St) (H:Hp) (x y:V) (v u:Value) (Q:VK),Inv X pins σ H s→RelV x v→RelV y u→r x y H Q →
  subscripted slice false v u=operate [v,u] (getItem v u)→wpAny (model X.prog X.w) X.A (subscriptTail value slice v u) (EP X pins σ Q) X.xe s
def MtR (X:Cx) (id:String) (r:V→List V→Hp→VK→Prop):Prop :=
 ∀ (pins:List (Addr × Obj)) (s:Shared) (σ:St) (H:Hp) (x:V) (xs:List V) (v:Value) (us:List Value) (Q:VK),Inv X pins σ H s→RelV x v→Vals xs us→r x xs H Q →
  wpAny (model X.prog X.w) X.A (call (.builtin id) (v :: us)) (EP X pins σ Q) X.xe s
section
variable {X:Cx} {a b:Expr} {ta tb:TE} {pos:Pos}
theorem IxR.or {r r':R2} (h:IxR X r) (h':IxR X r'):IxR X (fun x y H Q=>r x y H Q∨r' x y H Q):=by
 intro value slice pins s σ H x y v u Q I rx ry q hs
 rcases q with q | q
 ·exact h value slice pins s σ H x y v u Q I rx ry q hs
 ·exact h' value slice pins s σ H x y v u Q I rx ry q hs
theorem MtR.or {id:String} {r r':V→List V→Hp→VK→Prop} (h:MtR X id r) (h':MtR X id r'):MtR X id (fun x xs H Q=>r x xs H Q∨r' x xs H Q):=by
 intro pins s σ H x xs v us Q I rx rs q
 rcases q with q | q
 ·exact h pins s σ H x xs v us Q I rx rs q
 ·exact h' pins s σ H x xs v us Q I rx rs q
theorem zuc {r:R2} (hr:IxR X r) (ha:PE X a ta) (hb:PE X b tb) (hs:zn0 b):PE X (.Subscript a b pos) (tOp r ta tb):=by
 intro pins s σ H Q I h
 exact Subscript_ (binT ha hb I h fun v u s2 x y H2 I2 rx ry q=>hr a b pins s2 σ H2 x y v u Q I2 rx ry q (hs _ _))
def rIxL (K:PySem.W.Frag):R2:=fun x y H Q=>∃ p xs i v,x = .ref p∧y = .int i∧SqL K H p xs∧atI xs i=some v∧Q v H
def rIxT (K:PySem.W.Frag):R2:=fun x y H Q=>∃ p xs i v,x = .ref p∧y = .int i∧SqT K H p xs∧atI xs i=some v∧Q v H
def rIxS:R2:=fun x y H Q=>∃ z i c,x = .str z∧y = .int i∧z.length ≤ sizeLine∧atI z.cps.toList i=some c∧Q (.str ⟨#[c]⟩) H
theorem zqm:IxR X (rIxL X.K):=by
 intro value slice pins s σ H x y v u Q I rx ry h hs
 obtain ⟨p,xs,i,z,rfl,rfl,hq,he,q⟩:=h
 cases rx
 obtain ⟨t,rfl⟩:=ry
 obtain ⟨its,r,pl,hz⟩:=I.list hq
 obtain ⟨j,h1,h2,h3,h4,h5⟩:=zkG he
 obtain ⟨w,ew,rw'⟩:=r.get h2
 have hl:=r.length
 have hn:=zjD
 have fin:EP X pins σ Q w s:=⟨z,H,I,rw',q⟩
 by_cases h0:0 ≤ i
 ·have hj:i.toNat=j:=by
   rw [seqIndex_of h0 h5] at h1
   exact Option.some.inj h1
  exact item_listR pl.isList h0 (by omega) (by rw [hj];simpa using ew) fin hs
 ·have hj:(i + (its.toArray.size:Int)).toNat=j:=by
   rw [seqIndex_neg (by omega) h4] at h1
   rw [List.size_toArray,← hl]
   exact Option.some.inj h1
  exact subscriptTail_builtinR (x:=w) pl.isList.typeIs slot_list_getitem.lookup
   (wpAny_getItem_list_neg (Q:=fun r s'=>r=w∧EP X pins σ Q r s') pl.isList (by omega) (by rw [List.size_toArray] <;> omega) (by omega) (by rw [hj];simpa using ew) ⟨rfl,fin⟩) hs
theorem zrG:IxR X (rIxT X.K):=by
 intro value slice pins s σ H x y v u Q I rx ry h hs
 obtain ⟨p,xs,i,z,rfl,rfl,hq,he,q⟩:=h
 cases rx
 obtain ⟨t,rfl⟩:=ry
 obtain ⟨its,r,pl,hz⟩:=I.tuple hq
 obtain ⟨j,h1,h2,h3,h4,h5⟩:=zkG he
 obtain ⟨w,ew,rw'⟩:=r.get h2
 have hl:=r.length
 have hn:=zjD
 have fin:EP X pins σ Q w s:=⟨z,H,I,rw',q⟩
 exact subscriptTail_builtinR (x:=w) pl.typeIs slot_tuple_getitem.lookup
  (getItem_tuple (j:=j) (Q:=fun r s'=>r=w∧EP X pins σ Q r s') pl (by omega) (by omega) (by rw [List.size_toArray,← hl];exact h1) (by simpa using ew) ⟨rfl,fin⟩) hs
theorem ztf:IxR X rIxS:=by
 intro value slice pins s σ H x y v u Q I rx ry h hs
 obtain ⟨z,i,c,rfl,rfl,hz,he,q⟩:=h
 obtain ⟨t,rfl⟩:=rx
 obtain ⟨t',rfl⟩:=ry
 obtain ⟨j,h1,h2,h3,h4,h5⟩:=zkG he
 have hl:z.cps.toList.length=z.length:=by simp [Str.length]
 rw [hl] at h1 h4 h5
 have hn:=zjD
 exact tail_any (typeIs_str s z t) slot_str_getitem.lookup (getItem_str (c:=c) (by
  have e1:decide (i < -(2 ^ 63:Int))=false:=decide_eq_false (by omega)
  have e2:decide (i ≥ 2 ^ 63)=false:=decide_eq_false (by omega)
  rw [e1,e2,Bool.or_false]) (by rw [h1];simpa using h2) ⟨.str ⟨#[c]⟩,H,I.tok _,⟨_,rfl⟩,q⟩) hs
def rIx (K:PySem.W.Frag):R2:=fun x y H Q=>rIxL K x y H Q∨rIxT K x y H Q∨rIxS x y H Q
theorem zsw:IxR X (rIx X.K):=zqm.or (zrG.or ztf)
theorem zl0 (its:List Value) (n j:Nat) (u:Value):Obj.mapSeq (·.setIfInBounds j u) { cls := .type "list",data := .seq its.toArray n } = { cls := .type "list",data := .seq (its.set j u).toArray n }:=by
 simp [Obj.mapSeq]
theorem Inv.lst {pins:List (Addr × Obj)} {σ:St} {H:Hp} {s:Shared} {p:Addr} {xs:List V} (I:Inv X pins σ H s) (h:H p=some (.lst xs)) :
  ∃ (its:List Value) (n:Nat),Vals xs its∧s.heap.get? p=some { cls := .type "list",data := .seq its.toArray n }∧xs.length ≤ sizeLine:=by
 obtain ⟨z,its,n,r,e⟩:=I.hok p _ h
 exact ⟨its,n,r,e,z⟩
theorem Inv.zsm {pins:List (Addr × Obj)} {σ:St} {H:Hp} {s:Shared} {p:Addr} {xs ys:List V} {its its':List Value} {n n':Nat} {f:Obj→Obj} (I:Inv X pins σ H s) (h:H p=some (.lst xs))
  (ho:s.heap.get? p=some { cls := .type "list",data := .seq its.toArray n }) (hf:f { cls := .type "list",data := .seq its.toArray n } = { cls := .type "list",data := .seq its'.toArray n' }) (r:Vals ys its') (hz:ys.length ≤ sizeLine) (t:Nat) :
  Inv X pins σ (upd H p (.lst ys)) { s with heap:=s.heap.update p f,toks:=t }:=by
 have e:(s.heap.update p f).get? p=some { cls := .type "list",data := .seq its'.toArray n' }:=by
  rw [Heap.get?_update_self f ho (by rw [hf] <;> rfl),hf]
 refine I.write (x:=p) (e:=p) (by rw [h];trivial) (.inl rfl) (fun b u hb q=>(Heap.get?_update_other _ _ (Ne.symm hb)).trans q) ⟨_,e⟩ ?_
 exact ⟨hz,its',n',r,e⟩
def ztv:V→V→V→Hp→(Hp→Prop)→Prop:=fun o i v H Q=>∃ p xs k j,o = .ref p∧i = .int k∧H p=some (.lst xs)∧ixN xs.length k=some j∧Q (upd H p (.lst (xs.set j v)))
theorem set_list:PSet X ztv:=by
 intro pins s σ H o i v ov iv u Q I ro ri rv h
 obtain ⟨p,xs,k,j,rfl,rfl,hp,hj,q⟩:=h
 cases ro
 obtain ⟨t,rfl⟩:=ri
 obtain ⟨its,n,r,ho,hz⟩:=I.lst hp
 obtain ⟨h1,h2,h3,h4⟩:=znE hj
 have hl:=r.length
 have hn:=zjD
 have I':Inv X pins σ (upd H p (.lst (xs.set j v))) { s with heap:=s.heap.update p (Obj.mapSeq (·.setIfInBounds j u)) } :=
  I.zsm hp ho (zl0 its n j u) (r.set rv j) (by rw [List.length_set];exact hz) s.toks
 by_cases h0:0 ≤ k
 ·have hk:k.toNat=j:=by
   rw [seqIndex_of h0 h4] at h1
   exact Option.some.inj h1
  exact PySem.W.ki_setAt ho h0 (by omega) (by rw [List.size_toArray,← hl];exact h4) (by rw [hk];exact ⟨_,I',q⟩)
 ·have hk:(k + (its.toArray.size:Int)).toNat=j:=by
   rw [seqIndex_neg (by omega) h3] at h1
   rw [List.size_toArray,← hl]
   exact Option.some.inj h1
  exact PySem.W.ki_setBack ho (by omega) (by rw [List.size_toArray,← hl];exact h3) (by omega) (by rw [hk];exact ⟨_,I',q⟩)
theorem zkd (lo hi:Option Int) (n:Nat):(sliceBounds lo hi none n).1=((HT.sIx n 0 lo:Nat):Int)∧(sliceBounds lo hi none n).2.1=((HT.sIx n n hi:Nat):Int)∧(sliceBounds lo hi none n).2.2=1:=by
 refine ⟨?_,?_,rfl⟩
 ·cases lo with
  | none=>simp [sliceBounds,HT.sIx]
  | some i =>
   simp only [sliceBounds,HT.sIx,Option.getD_none,show (1:Int) > 0 by decide,if_true]
   by_cases h:i < 0
   ·simp only [h,if_true] <;> omega
   ·simp only [h,if_false] <;> omega
 ·cases hi with
  | none=>simp [sliceBounds,HT.sIx]
  | some i =>
   simp only [sliceBounds,HT.sIx,Option.getD_none,show (1:Int) > 0 by decide,if_true]
   by_cases h:i < 0
   ·simp only [h,if_true] <;> omega
   ·simp only [h,if_false] <;> omega
theorem ziY (its:List Value) (lo hi:Option Int):slicePick its.toArray lo hi none=((its.drop (HT.sIx its.length 0 lo)).take (HT.sIx its.length its.length hi - HT.sIx its.length 0 lo)).toArray:=by
 obtain ⟨h1,h2,h3⟩:=zkd lo hi its.toArray.size
 unfold slicePick
 rw [h1,h2,h3]
 simp only [sliceRange_one,pick_run,List.size_toArray] <;> rfl
def rSlL (K:PySem.W.Frag):V→Option Int→Option Int→Hp→VK→Prop:=fun x lo hi H Q=>∃ a xs,x = .ref a∧SqL K H a xs∧∀ p,H p=none→Q (.ref p) (upd H p (.lst (cutV xs lo hi)))
theorem zqd:SlR X (rSlL X.K):=by
 intro pins s σ H x v vl vu lo hi sl Q I rx hs pl pu h
 obtain ⟨a,xs,rfl,hx,q⟩:=h
 cases rx
 obtain ⟨its,r,ht,hz⟩:=I.list hx
 have hlen:=r.length
 refine ⟨"list",_,slot_list_getitem.lookup,ht.isList.typeIs,?_⟩
 refine wpAny_getItem_list_slice ht.isList hs pl pu .none (by simp) ?_ (by rw [List.size_toArray] <;> omega)
 rw [ziY,← hlen]
 refine ⟨.ref s.heap.objs.size,_,I.laid (t':=s.toks) (o := .lst (cutV xs lo hi)) (fun b ob q=>Heap.get?_push_of_some _ q) (Nat.le_refl _) ?_,rfl,q _ (I.hok.fresh (Nat.le_refl _))⟩
 exact ⟨Nat.le_trans (zhB xs lo hi) hz,_,0,(r.drop (HT.sIx xs.length 0 lo)).take (HT.sIx xs.length xs.length hi - HT.sIx xs.length 0 lo),Heap.get?_push_size _ rfl⟩
theorem zkf:zfo X (.builtin "len") (fun xs H Q=>∃ p ys,xs=[.ref p]∧(SqL X.K H p ys∨SqT X.K H p ys)∧Q (.int ys.length) H):=by
 intro pins s σ H xs us Q I r h
 obtain ⟨p,ys,rfl,hq,q⟩:=h
 obtain ⟨u,rfl,rx⟩:=vals1 r
 cases rx
 have hn:=zjD
 rcases hq with hq | hq
 ·obtain ⟨its,r',pl,hz⟩:=I.list hq
  have hlen:=r'.length
  exact Calls.call_len_list pl.isList (by simp only [List.size_toArray] <;> omega) ⟨.int ys.length,H,I.tok _,⟨s.toks + 1,by rw [List.size_toArray,hlen]⟩,q⟩
 ·obtain ⟨its,r',pl,hz⟩:=I.tuple hq
  have hlen:=r'.length
  exact len_tuple pl (by simp only [List.size_toArray] <;> omega) ⟨.int ys.length,H,I.tok _,⟨s.toks + 1,by rw [List.size_toArray,hlen]⟩,q⟩
theorem zfo.or {f:Value} {r r':List V→Hp→VK→Prop} (h:zfo X f r) (h':zfo X f r'):zfo X f (fun xs H Q=>r xs H Q∨r' xs H Q):=by
 intro pins s σ H xs us Q I rs q
 rcases q with q | q
 ·exact h pins s σ H xs us Q I rs q
 ·exact h' pins s σ H xs us Q I rs q
theorem zjO:zfo X (.type "list") (fun xs H Q=>∃ p ys,xs=[.ref p]∧(SqL X.K H p ys∨SqT X.K H p ys)∧∀ l,H l=none→Q (.ref l) (upd H l (.lst ys))):=by
 intro pins s σ H xs us Q I r h
 obtain ⟨p,ys,rfl,hq,q⟩:=h
 obtain ⟨u,rfl,rx⟩:=vals1 r
 cases rx
 have fin:∀ (its:List Value),Vals ys its→ys.length ≤ sizeLine→∀ (h':Heap) (c':Nat),(∀ b o',s.heap.get? b=some o'→h'.get? b=some o') →
   h'.get? s.heap.objs.size=some { cls := .type "list",dict:=none,data := .seq its.toArray c',slots:=#[] }→EP X pins σ Q (.ref s.heap.objs.size) { s with heap:=h' }:=fun its r' hz h' c' kp e =>
  ⟨.ref s.heap.objs.size,_,I.laid (t':=s.toks) kp (Nat.le_refl _) (show zdn X.prog X.w _ h' _ (.lst ys) from ⟨hz,its,c',r',e⟩),rfl,q _ (I.hok.fresh (Nat.le_refl _))⟩
 rcases hq with hq | hq
 ·obtain ⟨its,r',pl,hz⟩:=I.list hq
  have hlen:=r'.length
  obtain ⟨o,ho,hc,n,hd⟩:=pl.isList
  exact call_list_seq p (.inl rfl) ho hc hd (fun h' c' kp e=>fin its r' hz h' c' kp e) (by simp only [List.size_toArray] <;> omega)
 ·obtain ⟨its,r',pl,hz⟩:=I.tuple hq
  have hlen:=r'.length
  obtain ⟨o,ho,hc,n,hd⟩:=pl
  exact call_list_seq p (.inr rfl) ho hc hd (fun h' c' kp e=>fin its r' hz h' c' kp e) (by simp only [List.size_toArray] <;> omega)
def tyV (K:PySem.W.Frag) (T:String) (x:V) (H:Hp):Prop:=match x with
 | .str _=>T = "str"
 | .int _=>T = "int"
 | .ref p=>(T = "list"∧∃ xs,SqL K H p xs)∨(T = "tuple"∧∃ o,K.lookup p=some o∧o.cls = .type "tuple"∧o.dict=none) ∨
   (T = "dict"∧((∃ kvs,H p=some (.dK kvs))∨∃ kvs,H p=some (.dT kvs)))∨(T = "set"∧∃ S n,H p=some (.set S n))
 | _=>False
theorem zsT {pins:List (Addr × Obj)} {σ:St} {H:Hp} {s:Shared} {T:String} {x:V} {v:Value} (I:Inv X pins σ H s) (r:RelV x v) (ty:tyV X.K T x H) :
  s.TypeIs v T∧∀ a,v = .ref a→∃ ob,s.heap.get? a=some ob∧ob.dict=none:=by
 cases x with
 | str z =>
  obtain ⟨t,rfl⟩:=r
  cases (show T = "str" from ty)
  exact ⟨typeIs_str s z t,fun _ e=>nomatch e⟩
 | int i =>
  obtain ⟨t,rfl⟩:=r
  cases (show T = "int" from ty)
  exact ⟨typeIs_int s i t,fun _ e=>nomatch e⟩
 | ref p =>
  cases r
  rcases ty with ⟨rfl,xs,hq⟩ | ⟨rfl,o,hk,hc,hd⟩ | ⟨rfl,hk⟩ | ⟨rfl,S,n,hk⟩
  ·obtain ⟨its,_,pl,_⟩:=I.list hq
   refine ⟨pl.isList.typeIs,fun a e=>?_⟩
   cases e
   obtain ⟨o,n,e,c,hd,_⟩:=pl
   exact ⟨o,e,hd⟩
  ·refine ⟨⟨o,I.kIn p o hk,hc⟩,fun a e=>?_⟩
   cases e
   exact ⟨o,I.kIn _ o hk,hd⟩
  ·have z:∃ o,s.heap.get? p=some o∧o.ExactDict:=by
    rcases hk with ⟨kvs,hk⟩ | ⟨kvs,hk⟩
    ·obtain ⟨_,_,_,_,o,_,_,e,ex,_⟩:=I.hok p _ hk
     exact ⟨o,e,ex⟩
    ·obtain ⟨_,_,_,_,o,_,_,e,ex,_⟩:=I.hok p _ hk
     exact ⟨o,e,ex⟩
   obtain ⟨o,e,ex⟩:=z
   refine ⟨⟨o,e,ex.1⟩,fun a e2=>?_⟩
   cases e2
   exact ⟨o,e,ex.2.1⟩
  ·obtain ⟨o,_,_,_,e,ex,_⟩:=I.hok p _ hk
   refine ⟨⟨o,e,ex.1⟩,fun a e2=>?_⟩
   cases e2
   exact ⟨o,e,ex.2.1⟩
 | _=>exact False.elim ty
def tBM (K:PySem.W.Frag) (T:String) (r:V→List V→Hp→VK→Prop) (to:TE) (t:TA):TE:=fun σ H Q=>to σ H fun x H1=>tyV K T x H1∧t σ H1 fun xs H2=>r x xs H2 Q
variable {o e:Expr} {es:List Expr} {to:TE} {t:TA} {name:Str} {apos cpos:Pos} {T id:String} {r:V→List V→Hp→VK→Prop}
theorem ztX (pa:PlainAttrs T) (slot:Slot T name id) (hty:typeOf (.builtin id)=pure (.type "method_descriptor")) (hm:MtR X id r) (ho:PE X o to) (ha:PA X (e :: es) t)
  (hbase:attributeBase o name X.env (eval o X.env)=eval o X.env:=by rfl)
  (hfew:((backTo cpos (starEach (e :: es) X.env)).all (fun x=>!x.1) && (backToKw cpos (keywordEach [] X.env)).all (fun x=>x.1.isSome)
   && decide ((e :: es).length + ([] : List Keyword).length + (if ([] : List Keyword).isEmpty then 0 else 1) < 30))=true:=by rfl)
  (hline:(apos.endLine == cpos.line)=true:=by rfl) (hs:starEach (e :: es) X.env=(false,eval e X.env) :: starEach es X.env:=by rfl) (hplain:(backTo cpos (starEach es X.env)).any (·.1)=false:=by rfl) :
  PE X (.Call (.Attribute o name apos) (e :: es) [] cpos) (tBM X.K T r to t):=by
 intro pins s σ H Q I h
 refine wpAny_Call_method_late hbase hfew hline rfl (thn (ho pins s σ H _ I h) fun v s1 ⟨x,H1,I1,r1,ty,q1⟩=>?_)
 obtain ⟨h1,h2⟩:=zsT I1 r1 ty
 refine ⟨T,id,pa,slot,hty,h1,h2,?_⟩
 have hA:=ha cpos pins s1 σ H1 _ I1 q1
 rw [hs] at hA ⊢
 refine Calls.callWith_builtin (by show (false || (backTo cpos (starEach es X.env)).any (·.1))=false;rw [hplain] <;> rfl) (Calls.evalArgs_plain ?_)
 exact thn hA fun us s2 ⟨vs,H2,I2,r2,q2⟩=>hm pins s2 σ H2 x vs v us Q I2 r1 r2 q2
end
end L2
namespace L2
open PySem PySem.Spec PyProof.Rows
def MtM (X:Cx) (id:String) (r:V→List V→Hp→VK→Prop):Prop :=
 ∀ (pins:List (Addr × Obj)) (s:Shared) (σ:St) (H:Hp) (x:V) (xs:List V) (v:Value) (us:List Value) (Q:VK),Inv X pins σ H s→RelV x v→Vals xs us→r x xs H Q →
  wpAny (model X.prog X.w) X.A (call (.builtin id) (v :: us)) (EP X pins σ Q) X.xe s
theorem Vals.one:∀ {x:V} {us:List Value},Vals [x] us→∃ u,us=[u]∧RelV x u
 | _,_, .cons r .nil=>⟨_,rfl,r⟩
theorem Vals.two:∀ {x y:V} {us:List Value},Vals [x,y] us→∃ u v,us=[u,v]∧RelV x u∧RelV y v
 | _,_,_, .cons r (.cons q .nil)=>⟨_,_,rfl,r,q⟩
theorem Vals.zero:∀ {us:List Value},Vals [] us→us=[]
 | _, .nil=>rfl
theorem Vals.rep {xs:List V} {us:List Value} (h:Vals xs us):∀ k:Nat,Vals (List.replicate k xs).flatten (List.replicate k us).flatten
 | 0 => .nil
 | k + 1=>by
  rw [List.replicate_succ,List.replicate_succ,List.flatten_cons,List.flatten_cons]
  exact Vals.append h (Vals.rep h k)
theorem foldl_rep (its:List Value):∀ (k:Nat) (acc:List Value),
  List.foldl (fun x1 x2=>x1 ++ x2) acc.toArray (List.replicate k its.toArray)=(acc ++ (List.replicate k its).flatten).toArray
 | 0,acc=>by simp
 | k + 1,acc=>by
  have e:acc.toArray ++ its.toArray=(acc ++ its).toArray:=by simp
  have e2:(acc ++ its) ++ (List.replicate k its).flatten=acc ++ (List.replicate (k + 1) its).flatten:=by
   rw [List.replicate_succ,List.flatten_cons,List.append_assoc]
  rw [← e2,← foldl_rep its k (acc ++ its),← e,List.replicate_succ,List.foldl_cons]
section
variable {X:Cx} {pins:List (Addr × Obj)} {σ:St} {H:Hp} {s:Shared} {l b:Addr} {xs ys zs:List V}
theorem Inv.lset {its its':List Value} {n:Nat} {f:Array Value→Array Value} {t':Nat} (I:Inv X pins σ H s) (hH:H l=some (.lst xs))
  (e:s.heap.get? l=some { cls := .type "list",data := .seq its.toArray n }) (hf:f its.toArray=its'.toArray) (hv:Vals ys its') (hz:ys.length ≤ sizeLine) :
  Inv X pins σ (upd H l (.lst ys)) { s with heap:=s.heap.update l (Obj.mapSeq f),toks:=t' }:=by
 have q:=PySem.IsL.update e f
 rw [hf] at q
 refine I.write (x:=l) (e:=l) (by rw [hH];exact trivial) (.inl rfl) (fun b' u hb hu=>(Heap.get?_update_other s.heap (Obj.mapSeq f) (Ne.symm hb)).trans hu) ⟨_,q⟩ ?_
 exact ⟨hz,its',_,hv,q⟩
theorem Inv.lnew {its:List Value} {t':Nat} (I:Inv X pins σ H s) (hv:Vals ys its) (hz:ys.length ≤ sizeLine) :
  Inv X pins σ (upd H s.heap.objs.size (.lst ys)) { s with heap:=s.heap.push { cls := .type "list",data := .seq its.toArray },toks:=t' } :=
 I.laid (fun _ _ q=>Heap.get?_push_of_some _ q) (Nat.le_refl _) ⟨hz,its,0,hv,Heap.get?_push_size _ rfl⟩
theorem Inv.fresh (I:Inv X pins σ H s):H s.heap.objs.size=none:=I.hok.fresh (Nat.le_refl _)
theorem Inv.lstM (I:Inv X pins σ H s) (hH:H l=some (.lst xs)):xs.length ≤ sizeLine∧∃ (its:List Value) (n:Nat),Vals xs its∧xs.length=its.length∧s.heap.get? l=some { cls := .type "list",data := .seq its.toArray n }:=by
 obtain ⟨z,its,n,r,e⟩:=I.hok l _ hH
 exact ⟨z,its,n,r,r.length,e⟩
theorem zoy {n:Nat} (h:n ≤ sizeLine):Builtin.List.listTooLong n=false:=by
 unfold Builtin.List.listTooLong
 exact decide_eq_false (by omega)
end
section
variable {X:Cx}
def zmQ:V→List V→Hp→VK→Prop:=fun x vs H Q=>∃ l xs y,x = .ref l∧vs=[y]∧H l=some (.lst xs)∧xs.length < sizeLine∧Q .non (upd H l (.lst (xs ++ [y])))
theorem zd0:MtM X "list.append" zmQ:=by
 intro pins s σ H x vs v us Q I rx rv h
 obtain ⟨l,xs,y,rfl,rfl,hH,hz,q⟩:=h
 cases rx
 obtain ⟨u,rfl,ru⟩:=rv.one
 obtain ⟨z,its,n,r,hl,e⟩:=I.lstM hH
 refine call_meets F.slot_list_append ⟨_,e,rfl⟩ F.entry_list_append (F.args_list_append_2 _ _) (PySem.list_append l its.toArray n u (by rw [List.size_toArray];omega)) ⟨e,?_⟩
 refine ⟨.non,_,I.lset (its':=its ++ [u]) hH e (by simp) (r.append (.cons ru .nil)) ?_,rfl,q⟩
 rw [List.length_append,List.length_singleton]
 omega
def rCat:R2:=fun x y H Q=>∃ l b xs zs,x = .ref l∧y = .ref b∧H l=some (.lst xs)∧H b=some (.lst zs)∧xs.length + zs.length ≤ sizeLine∧∀ p,H p=none→Q (.ref p) (upd H p (.lst (xs ++ zs)))
theorem zsh:OpR X (binaryOp .Add) rCat:=by
 intro pins s σ H x y v u Q I rx ry h
 obtain ⟨l,b,xs,zs,rfl,rfl,hH,hB,hz,q⟩:=h
 cases rx
 cases ry
 obtain ⟨z,its,n,r,hl,e⟩:=I.lstM hH
 obtain ⟨z2,its2,n2,r2,hl2,e2⟩:=I.lstM hB
 refine PySem.P.add_list e e2 ?_ (by rw [List.size_toArray,List.size_toArray];omega)
 have ea:its.toArray ++ its2.toArray=(its ++ its2).toArray:=by simp
 rw [ea]
 exact ⟨.ref _,_,I.lnew (t':=s.toks) (r.append r2) (by rw [List.length_append];omega),rfl,q _ I.fresh⟩
def rRep:R2:=fun x y H Q=>∃ l k xs,x = .ref l∧y = .int k∧H l=some (.lst xs)∧-(2 ^ 63) ≤ k∧k < 2 ^ 63∧xs.length * k.toNat ≤ sizeLine ∧
 ∀ p,H p=none→Q (.ref p) (upd H p (.lst (List.replicate k.toNat xs).flatten))
theorem len_rep {α:Type} (xs:List α) (k:Nat):(List.replicate k xs).flatten.length=k * xs.length:=by
 induction k with
 | zero=>simp
 | succ k ih=>rw [List.replicate_succ,List.flatten_cons,List.length_append,ih,Nat.succ_mul,Nat.add_comm]
theorem zs5:OpR X (binaryOp .Mult) rRep:=by
 intro pins s σ H x y v u Q I rx ry h
 obtain ⟨l,k,xs,rfl,rfl,hH,h1,h2,hz,q⟩:=h
 cases rx
 obtain ⟨t,rfl⟩:=ry
 obtain ⟨z,its,n,r,hl,e⟩:=I.lstM hH
 have hlen:its.toArray.size * k.toNat ≤ sizeLine:=by rw [List.size_toArray,← hl];exact hz
 have hcap:¬ its.toArray.size * k.toNat > (2 ^ 63 - 1) / 8:=by
  have:(sizeLine:Nat) ≤ (2 ^ 63 - 1) / 8:=by decide
  omega
 have hfit:¬ (!Builtin.List.listFitsIndex k)=true:=by
  rw [fitsIndex_both h1 h2]
  exact Bool.false_ne_true
 have hlong:¬ Builtin.List.listTooLong (its.toArray.size * k.toNat)=true:=by
  rw [zoy hlen]
  exact Bool.false_ne_true
 have hnew:List.foldl (fun x1 x2=>x1 ++ x2) #[] (List.replicate (if its.toArray.isEmpty=true then 0 else k.toNat) its.toArray)=(List.replicate k.toNat its).flatten.toArray:=by
  have f0:∀ m:Nat,List.foldl (fun x1 x2=>x1 ++ x2) #[] (List.replicate m its.toArray)=(List.replicate m its).flatten.toArray:=fun m=>by
   have:=foldl_rep its m []
   rw [List.nil_append] at this
   exact this
  rw [f0]
  cases its with
  | nil=>simp
  | cons a r'=>rw [if_neg (by simp)]
 refine wpAny_binaryOp_repeat_ref (T := "list") (U := "int") (by decide) ⟨_,e,rfl⟩ (fun s'=>typeIs_int s' k t) noFill_list_mul F.fills_int_mul F.slot_int_rmul repeat_list F.slot_int_index.lookup
  (call_meets F.slot_int_rmul (typeIs_int s k t) F.entry_int_rmul (F.args_int_rmul_2 _ _) (int___rmul___int_list k t l its.toArray n)
   ⟨e,rfl,⟨_,e,rfl⟩,call_meets F.slot_list_mul ⟨_,e,rfl⟩ F.entry_list_mul (F.args_list_mul_2 _ _) (AutoListH.list___mul___list_int_3 l its.toArray n k t hfit hcap hlong) ⟨e,?_⟩⟩)
 rw [hnew]
 exact ⟨.ref _,_,I.lnew (t':=s.toks) (r.rep k.toNat) (by rw [len_rep,Nat.mul_comm];exact hz),rfl,q _ I.fresh⟩
end
section
variable {prog:Program} {w:World} {A:Around} {E:Value→Shared→Prop} {s:Shared}
end
section
variable {X:Cx}
end
end L2
namespace L2
open PySem PySem.Spec PyProof.Rows
section
variable {κ:Type} [DecidableEq κ]
def valV (kvs:List (κ × V)) (k:κ):Option V:=(kvs.find? fun kv=>decide (kv.1=k)).map (·.2)
def putK (kvs:List (κ × V)) (k:κ) (v:V):List (κ × V) :=
 if (kvs.any fun kv=>decide (kv.1=k))=true then kvs.map (fun kv=>if kv.1=k then (kv.1,v) else kv) else kvs ++ [(k,v)]
theorem ziA {p:κ × V} {r:List (κ × V)} {k:κ} (e:p.1=k):valV (p :: r) k=some p.2:=by simp [valV,List.find?_cons,e]
theorem zjb {p:κ × V} {r:List (κ × V)} {k:κ} (e:¬ p.1=k):valV (p :: r) k=valV r k:=by simp [valV,List.find?_cons,e]
theorem zld (k:κ):∀ kvs:List (κ × V),(kvs.any fun kv=>decide (kv.1=k))=(valV kvs k).isSome
 | []=>rfl
 | p :: r=>by
  rw [List.any_cons]
  by_cases e:p.1=k
  ·simp only [ziA e,decide_eq_true e,Bool.true_or,Option.isSome_some]
  ·rw [zjb e,decide_eq_false e,Bool.false_or];exact zld k r
theorem zhQ (kvs:List (κ × V)) (k:κ) (v:V):(putK kvs k v).length ≤ kvs.length + 1:=by
 unfold putK
 split
 ·rw [List.length_map];omega
 ·rw [List.length_append,List.length_cons,List.length_nil];omega
theorem RelO.zhN {o:Option V} {u:Option Value} (r:RelO o u):o.isSome=u.isSome:=by
 cases o with
 | none=>cases u with
  | none=>rfl
  | some _=>exact (show False from r).elim
 | some _=>cases u with
  | none=>exact (show False from r).elim
  | some _=>rfl
theorem RelO.getD {o:Option V} {u:Option Value} {d:V} {d':Value} (r:RelO o u) (rd:RelV d d'):RelV (o.getD d) (u.getD d'):=by
 cases o with
 | none=>cases u with
  | none=>exact rd
  | some _=>exact (show False from r).elim
 | some _=>cases u with
  | none=>exact (show False from r).elim
  | some _=>exact r
theorem KV.val {kvs:List (κ × V)} {vs:List (κ × Value)} (r:KV kvs vs) (k:κ):RelO (valV kvs k) (valueAt vs k):=by
 unfold KV at r
 induction r with
 | nil=>exact True.intro
 | @cons p q ps qs h t ih =>
  obtain ⟨h1,h2⟩:=h
  by_cases e:p.1=k
  ·have e':q.1=k:=h1.symm.trans e
   have b:valueAt (q :: qs) k=some q.2:=by simp [valueAt,List.find?_cons,e']
   rw [ziA e,b];exact h2
  ·have e':¬ q.1=k:=fun z=>e (h1.trans z)
   have b:valueAt (q :: qs) k=valueAt qs k:=by simp [valueAt,List.find?_cons,e']
   rw [zjb e,b];exact ih
theorem KV.any {kvs:List (κ × V)} {vs:List (κ × Value)} (r:KV kvs vs) (k:κ):(kvs.any fun kv=>decide (kv.1=k))=vs.any fun kv=>decide (kv.1=k):=by
 unfold KV at r
 induction r with
 | nil=>rfl
 | cons h t ih=>rw [List.any_cons,List.any_cons,ih,h.1]
theorem KV.repl {kvs:List (κ × V)} {vs:List (κ × Value)} (r:KV kvs vs) (k:κ) {y:V} {u:Value} (ry:RelV y u) :
  KV (kvs.map fun kv=>if kv.1=k then (kv.1,y) else kv) (vs.map fun kv=>if kv.1=k then (kv.1,u) else kv):=by
 unfold KV at r ⊢
 induction r with
 | nil=>exact .nil
 | @cons p q ps qs h t ih =>
  rw [List.map_cons,List.map_cons]
  refine .cons ?_ ih
  obtain ⟨h1,h2⟩:=h
  by_cases e:p.1=k
  ·rw [if_pos e,if_pos (h1.symm.trans e)];exact ⟨h1,ry⟩
  ·rw [if_neg e,if_neg (fun z=>e (h1.trans z))];exact ⟨h1,h2⟩
theorem KV.put {kvs:List (κ × V)} {vs:List (κ × Value)} (r:KV kvs vs) (k:κ) {y:V} {u:Value} (ry:RelV y u):KV (putK kvs k y) (stored vs k u):=by
 unfold putK stored
 rw [r.any k]
 by_cases e:(vs.any fun kv=>decide (kv.1=k))=true
 ·rw [if_pos e,if_pos e];exact r.repl k ry
 ·rw [if_neg e,if_neg e];exact Paired.snoc r ⟨rfl,ry⟩
theorem KV.keys {kvs:List (κ × V)} {vs:List (κ × Value)} (r:KV kvs vs):kvs.map (·.1)=vs.map (·.1):=by
 unfold KV at r
 induction r with
 | nil=>rfl
 | cons h t ih=>rw [List.map_cons,List.map_cons,ih,h.1]
theorem KV.length {kvs:List (κ × V)} {vs:List (κ × Value)} (r:KV kvs vs):kvs.length=vs.length:=Paired.length r
end
theorem zm2 {P:Program} {w:World} {k:Key} {u:Value} (r:RelV (kV k) u):(zb8 P w).is k u=true:=by
 cases k with
 | inl i=>obtain ⟨t,e⟩:=(show ∃ t,u=Value.int i t from r);subst e;exact zkF P w i t
 | inr x=>obtain ⟨t,e⟩:=(show ∃ t,u=Value.str x t from r);subst e;exact zkV P w x t
theorem zjN {P:Program} {w:World}:∀ {ks:List Key} {us:List Value},Vals (ks.map kV) us→ItemsAre (zb8 P w) ks us
 | [],_,r=>by rw [List.map_nil] at r;cases r;exact .nil
 | k :: ks,_,r=>by
  rw [List.map_cons] at r
  cases r with
  | cons h t=>exact .cons (zm2 h) (zjN t)
abbrev KT (H:Hp):List (List Key × V)→List (List Key × Addr × Value)→Prop:=Paired fun p q=>p.1=q.1∧H q.2.1=some (.tup (p.1.map kV))∧RelV p.2 q.2.2
theorem KT.val {H:Hp} {kvs:List (List Key × V)} {xs:List (List Key × Addr × Value)} (r:KT H kvs xs) (k:List Key):RelO (valV kvs k) ((atKey xs k).map (·.2)):=by
 induction r with
 | nil=>exact True.intro
 | @cons p q ps qs h t ih =>
  obtain ⟨h1,_,h2⟩:=h
  by_cases e:p.1=k
  ·have e':q.1=k:=h1.symm.trans e
   have b:atKey (q :: qs) k=some q.2:=by simp [atKey,List.find?_cons,e']
   rw [ziA e,b];exact h2
  ·have e':¬ q.1=k:=fun z=>e (h1.trans z)
   have b:atKey (q :: qs) k=atKey qs k:=by simp [atKey,List.find?_cons,e']
   rw [zjb e,b];exact ih
theorem KT.repl {H:Hp} {kvs:List (List Key × V)} {xs:List (List Key × Addr × Value)} (r:KT H kvs xs) (k:List Key) {y:V} {u:Value} (ry:RelV y u) :
  KT H (kvs.map fun kv=>if kv.1=k then (kv.1,y) else kv) (xs.map (putAt k u)):=by
 induction r with
 | nil=>exact .nil
 | @cons p q ps qs h t ih =>
  rw [List.map_cons,List.map_cons]
  refine .cons ?_ ih
  obtain ⟨h1,h2,h3⟩:=h
  unfold putAt
  by_cases e:p.1=k
  ·rw [if_pos e,if_pos (h1.symm.trans e)];exact ⟨h1,h2,ry⟩
  ·rw [if_neg e,if_neg (fun z=>e (h1.trans z))];exact ⟨h1,h2,h3⟩
theorem KT.put {H:Hp} {kvs:List (List Key × V)} {xs:List (List Key × Addr × Value)} (r:KT H kvs xs) (k:List Key) {b:Addr} {y:V} {u:Value} (hb:H b=some (.tup (k.map kV))) (ry:RelV y u) :
  KT H (putK kvs k y) (storedH xs k b u):=by
 have e:(kvs.any fun kv=>decide (kv.1=k))=(atKey xs k).isSome:=by
  rw [zld,(r.val k).zhN,Option.isSome_map]
 unfold putK storedH
 rw [e]
 by_cases q:(atKey xs k).isSome=true
 ·rw [if_pos q,if_pos q];exact r.repl k ry
 ·rw [if_neg q,if_neg q];exact Paired.snoc r ⟨rfl,hb,ry⟩
theorem KT.keeps {H H':Hp} {kvs:List (List Key × V)} {xs:List (List Key × Addr × Value)} (r:KT H kvs xs) (ht:∀ b ys,H b=some (.tup ys)→H' b=some (.tup ys)):KT H' kvs xs :=
 Paired.mapP r fun _ _ z=>⟨z.1,ht _ _ z.2.1,z.2.2⟩
section
variable {P:Program} {w:World} {H:Hp} {h:Heap} {a:Addr}
theorem zsI {u:HO} (ok:HOk P w H h) (e:Rd H a u):zdn P w H h a u:=e.ok ok
theorem zmq {kvs:List (Key × V)} (ok:HOk P w H h) (e:Rd H a (.dK kvs)):kvs.length ≤ sizeLine∧(a == sysModules)=false∧∃ vs,KV kvs vs∧h.DictOf (zb8 P w) a vs :=
 show zdn P w H h a (.dK kvs) from zsI ok e
theorem ztc {kvs:List (Key × V)} (ok:HOk P w H h) (e:H a=some (.dK kvs)):kvs.length ≤ sizeLine∧(a == sysModules)=false∧∃ vs,KV kvs vs∧h.DictOf (zb8 P w) a vs:=zmq ok (.inl e)
theorem zjv {ks:List Key} (ok:HOk P w H h) (e:H a=some (.tup (ks.map kV))):(tupleKind (zb8 P w)).is h ks a:=by
 obtain ⟨_,its,r,o,h1,h2,n,h3⟩:=(show zdn P w H h a (.tup (ks.map kV)) from ok a _ e)
 exact ⟨o,its.toArray,n,h1,h2,h3,by simpa using zjN r⟩
theorem zl2 {kvs:List (List Key × V)} (ok:HOk P w H h) (e:Rd H a (.dT kvs)):kvs.length ≤ sizeLine∧(a == sysModules)=false ∧
  ∃ xs,KT H kvs xs∧h.DictOfH (tupleKind (zb8 P w)) a xs:=by
 obtain ⟨z,y,xs,r,o,es,ep,h1,h2,h3,h4,h5⟩:=(show zdn P w H h a (.dT kvs) from zsI ok e)
 refine ⟨z,y,xs,r,o,es,ep,h1,h2,h3,h4,fun x hx=>?_,h5⟩
 have all:∀ {l:List (List Key × V)} {m:List (List Key × Addr × Value)},KT H l m→∀ x ∈ m,(tupleKind (zb8 P w)).is h x.1 x.2.1:=by
  intro l m q
  induction q with
  | nil=>intro x hx;exact nomatch hx
  | @cons p q ps qs hq t ih =>
   intro x hx
   rcases List.mem_cons.mp hx with e | hx
   ·subst e
    exact zjv ok (by rw [← hq.1];exact hq.2.1)
   ·exact ih x hx
 exact all r x hx
theorem ztT {kvs:List (List Key × V)} (ok:HOk P w H h) (e:H a=some (.dT kvs)):kvs.length ≤ sizeLine∧(a == sysModules)=false ∧
  ∃ xs,KT H kvs xs∧h.DictOfH (tupleKind (zb8 P w)) a xs:=zl2 ok (.inl e)
end
def DGet (H:Hp) (a:Addr) (y:V) (r:Option V):Prop :=
 (∃ kvs k,Rd H a (.dK kvs)∧y=kV k∧r=valV kvs k)∨∃ kvs k b,Rd H a (.dT kvs)∧y = .ref b∧H b=some (.tup (k.map kV))∧r=valV kvs k
def DPut (H:Hp) (a:Addr) (y v:V) (H':Hp):Prop :=
 (∃ kvs k,H a=some (.dK kvs)∧y=kV k∧kvs.length < sizeLine∧H'=upd H a (.dK (putK kvs k v))) ∨
 ∃ kvs k b,H a=some (.dT kvs)∧y = .ref b∧H b=some (.tup (k.map kV))∧kvs.length < sizeLine∧H'=upd H a (.dT (putK kvs k v))
theorem DGet.k {H:Hp} {a:Addr} {kvs:List (Key × V)} {k:Key} (e:H a=some (.dK kvs)):DGet H a (kV k) (valV kvs k) := .inl ⟨kvs,k, .inl e,rfl,rfl⟩
theorem DGet.t {H:Hp} {a b:Addr} {kvs:List (List Key × V)} {k:List Key} (e:H a=some (.dT kvs)) (eb:H b=some (.tup (k.map kV))):DGet H a (.ref b) (valV kvs k) := .inr ⟨kvs,k,b, .inl e,rfl,eb,rfl⟩
theorem DPut.k {H:Hp} {a:Addr} {kvs:List (Key × V)} {k:Key} {v:V} (e:H a=some (.dK kvs)) (hl:kvs.length < sizeLine):DPut H a (kV k) v (upd H a (.dK (putK kvs k v))) := .inl ⟨kvs,k,e,rfl,hl,rfl⟩
theorem DPut.t {H:Hp} {a b:Addr} {kvs:List (List Key × V)} {k:List Key} {v:V} (e:H a=some (.dT kvs)) (eb:H b=some (.tup (k.map kV))) (hl:kvs.length < sizeLine) :
  DPut H a (.ref b) v (upd H a (.dT (putK kvs k v))) := .inr ⟨kvs,k,b,e,rfl,eb,hl,rfl⟩
section
variable {X:Cx} {pins:List (Addr × Obj)} {σ:St} {H:Hp} {s:Shared} {a:Addr} {y v:V} {u r:Value} {o:Option V} {A:Around} {E:Value→Shared→Prop}
theorem Inv.big (I:Inv X pins σ H s):sysModules < s.heap.objs.size:=by
 have h:mainGlobals < s.heap.objs.size:=(I.mod.glob.keeps I.bk).lt
 exact Nat.lt_trans (by decide) h
theorem zn4 {Q:Value→Shared→Prop} (hu:A.units + 1 < cLine) (I:Inv X pins σ H s) (g:DGet H a y (some v)) (ry:RelV y u) (h:∀ w' s',Inv X pins σ H s'→RelV v w'→Q w' s') :
  wpAny (model X.prog X.w) A (getItem (.ref a) u) Q E s:=by
 rcases g with ⟨kvs,k,e,ey,l⟩ | ⟨kvs,k,b,e,ey,eb,l⟩
 ·subst ey
  obtain ⟨z,hd,vs,rel,dd⟩:=zmq I.hok e
  obtain ⟨w',hw,rw'⟩:=RelO.some_of (v:=v) (o:=valueAt vs k) (by rw [l];exact rel.val k)
  exact wpAny_getItem_of (zm2 ry) dd.mapOf hw (h w' _ (I.tok _) rw')
 ·subst ey
  cases (show u=Value.ref b from ry)
  obtain ⟨z,hd,xs,rel,dd⟩:=zl2 I.hok e
  obtain ⟨w',hw,rw'⟩:=RelO.some_of (v:=v) (o:=(atKey xs k).map (·.2)) (by rw [l];exact rel.val k)
  obtain ⟨p,hp,hp2⟩:=Option.map_eq_some_iff.mp hw
  refine wpAny_getItem_heap (tupleKind_room_in1 hu) (zjv I.hok eb) dd hp ?_
  rw [hp2]
  exact h w' _ (I.tok _) rw'
theorem zqM {Q:Value→Shared→Prop} (hu:A.units + 1 < cLine) (I:Inv X pins σ H s) (g:DGet H a y o) (ry:RelV y u) (h:∀ s',Inv X pins σ H s'→Q (.bool (!o.isSome)) s') :
  wpAny (model X.prog X.w) A (compareOp .NotIn u (.ref a)) Q E s:=by
 rcases g with ⟨kvs,k,e,ey,l⟩ | ⟨kvs,k,b,e,ey,eb,l⟩
 ·subst ey
  obtain ⟨z,hd,vs,rel,dd⟩:=zmq I.hok e
  refine wpAny_notIn_of (zm2 ry) hd dd.mapOf ?_
  rw [← (rel.val k).zhN,← l]
  exact h _ (I.tok _)
 ·subst ey
  cases (show u=Value.ref b from ry)
  obtain ⟨z,hd,xs,rel,dd⟩:=zl2 I.hok e
  refine wpAny_notIn_heap (tupleKind_room_in1 hu) (zjv I.hok eb) hd dd ?_
  have q:=(rel.val k).zhN
  rw [Option.isSome_map] at q
  rw [← q,← l]
  exact h _ (I.tok _)
theorem zmO {h':Heap} {t':Nat} {ob:HO} (I:Inv X pins σ H s) (mu:Mut (H a)) (hs:Heap.SameBut a s.heap h') (he:∃ q,h'.get? a=some q) (new:zdn X.prog X.w (upd H a ob) h' a ob) :
  Inv X pins σ (upd H a ob) { s with heap:=h',toks:=t' } :=
 I.write (x:=a) (e:=a) mu (.inl rfl) (fun b q hb z=>(hs.2 b hb).trans z) he new
theorem zrQ {P:Program} {w:World} {H':Hp} {h':Heap} {kvs:List (Key × V)} {vs:List (Key × Value)} (z:kvs.length ≤ sizeLine) (hd:(a == sysModules)=false) (rel:KV kvs vs) (dd:h'.DictOf (zb8 P w) a vs) :
  zdn P w H' h' a (.dK kvs):=⟨z,hd,vs,rel,dd⟩
theorem znA {H':Hp} {Q:Unit→Shared→Prop} (hu:A.units + 1 < cLine) (I:Inv X pins σ H s) (g:DPut H a y v H') (ry:RelV y u) (rv:RelV v r) (h:∀ s',Inv X pins σ H' s'→Q () s') :
  wpAny (model X.prog X.w) A (setItem (.ref a) u r) Q E s:=by
 rcases g with ⟨kvs,k,e,ey,l,eH⟩ | ⟨kvs,k,b,e,ey,eb,l,eH⟩
 ·subst ey eH
  obtain ⟨z,hd,vs,rel,dd⟩:=ztc I.hok e
  have hz:vs.length ≤ sizeLine:=by rw [← rel.length];exact z
  have hl:(putK kvs k v).length ≤ sizeLine:=by have:=zhQ kvs k v;omega
  refine wpAny_setItem_pairs (hsz:=hz) (zm2 ry) dd fun h' dd' hs=>h _ ?_
  have he:∃ q,h'.get? a=some q:=let ⟨q,_,_,hq,_⟩:=dd'; ⟨q,hq⟩
  exact zmO I (by rw [e];exact True.intro) hs he (zrQ hl hd (rel.put k rv) dd')
 ·subst ey eH
  cases (show u=Value.ref b from ry)
  obtain ⟨z,hd,xs,rel,dd⟩:=ztT I.hok e
  have hz:xs.length ≤ sizeLine:=by rw [← Paired.length rel];exact z
  have hl:(putK kvs k v).length ≤ sizeLine:=by have:=zhQ kvs k v;omega
  refine wpAny_setItem_heap (hsz:=hz) (tupleKind_room_in1 hu) (zjv I.hok eb) dd fun h' dd' hs=>h _ ?_
  obtain ⟨q,es,ep,hq,h2,h3,h4,_,h5⟩:=dd'
  refine zmO I (by rw [e];exact True.intro) hs ⟨q,hq⟩ ⟨hl,hd,_,(rel.put k eb rv).keeps fun c ys ec=>?_,q,es,ep,hq,h2,h3,h4,h5⟩
  rw [zap (zrq ec e (fun z=>nomatch z))]
  exact ec
end
section
variable {X:Cx} {pins:List (Addr × Obj)} {σ:St} {H:Hp} {s:Shared} {a:Addr} {kvs:List (Key × V)} {k:Key} {u:Value} {A:Around} {E:Value→Shared→Prop}
end
def NoSl (i:Expr):Prop:=∀ ov iv,subscripted i false ov iv=operate [ov,iv] (getItem ov iv)
theorem zqC {prog:Program} {w:World} {A:Around} {E:Value→Shared→Prop} {s:Shared} {env:Env} {value slice:Expr} {pos:Pos} {T id:String} {Q:Value→Shared→Prop}
  (hl:typeLookup (.type T) "__getitem__" = pure (some (.builtin id))) (hs:NoSl slice)
  (h:wpAny (model prog w) A (eval value env) (fun o s₁=>wpAny (model prog w) A (eval slice env) (fun i s₂=>s₂.TypeIs o T∧wpAny (model prog w) A (getItem o i) Q E s₂) E s₁) E s) :
  wpAny (model prog w) A (eval (.Subscript value slice pos) env) Q E s:=by
 refine Subscript_ (wpAny_mono h (fun o s₁ h₁=>wpAny_mono h₁ (fun i s₂ h₂=>?_) fun _ _ x=>x) fun _ _ x=>x)
 obtain ⟨hT,h₂⟩:=h₂
 unfold subscriptTail
 refine wpAny_bind ?_
 rw [getitemInPython_of_ne hT.not_modules]
 refine wpAny_bind (wpAny_specialOf hT hl ?_)
 have fin:wpAny (model prog w) A (subscripted slice false o i) (fun r s₃=>wpAny (model prog w) A (letTemporaryGo value o r >>= fun _=>pure r) Q E s₃) E s₂:=by
  rw [hs o i]
  exact wpAny_operating (wpAny_mono h₂ (fun r s₃ h₃=>wpAny_bind (wpAny_letTemporaryGo (wpAny_pure h₃))) fun _ _ x=>x)
 first
  | exact wpAny_pure (wpAny_bind fin)
  | exact wpAny_bind (wpAny_pure (wpAny_bind fin))
  | exact wpAny_bind fin
theorem zkJ {X:Cx} {pins:List (Addr × Obj)} {σ:St} {H:Hp} {s:Shared} {a:Addr} {y:V} {o:Option V} (I:Inv X pins σ H s) (g:DGet H a y o):s.TypeIs (.ref a) "dict":=by
 rcases g with ⟨kvs,k,e,_,_⟩ | ⟨kvs,k,b,e,_,_,_⟩
 ·obtain ⟨_,_,vs,_,dd⟩:=zmq I.hok e
  exact dd.typeIs
 ·obtain ⟨_,_,xs,_,dd⟩:=zl2 I.hok e
  exact dd.typeIs
def zui (td ty:TE):TE:=fun σ H Q=>td σ H fun x H1=>ty σ H1 fun y H2=>∃ a v,x = .ref a∧DGet H2 a y (some v)∧Q v H2
def tDIn (ty td:TE):TE:=fun σ H Q=>ty σ H fun y H1=>td σ H1 fun x H2=>∃ a o,x = .ref a∧DGet H2 a y o∧Q (.bl o.isSome) H2
def znC (ty td:TE):TE:=fun σ H Q=>ty σ H fun y H1=>td σ H1 fun x H2=>∃ a o,x = .ref a∧DGet H2 a y o∧Q (.bl (!o.isSome)) H2
def ztY (td ty tv:TE):TS:=fun D σ H=>tv σ H fun v H1=>td σ H1 fun x H2=>ty σ H2 fun y H3=>∃ a H4,x = .ref a∧DPut H3 a y v H4∧D.nx σ H4
section
variable {X:Cx} {o i e value:Expr} {pos pos' tpos:Pos} {td ty tv:TE}
theorem zpQ (hu:X.A.units + 1 < cLine) (ho:PE X o td) (hi:PE X i ty) (hs:NoSl i):PE X (.Subscript o i pos) (zui td ty):=by
 intro pins s σ H Q I h
 refine zqC PySem.F.slot_dict_getitem.lookup hs (thn (ho pins s σ H _ I h) fun u s1 ⟨x,H1,I1,rx,q1⟩=>thn (hi pins s1 σ H1 _ I1 q1) fun iv s2 ⟨y,H2,I2,ry,a,v,ex,g,q2⟩=>?_)
 subst ex
 obtain rfl:u=Value.ref a:=rx
 exact ⟨zkJ I2 g,zn4 hu I2 g ry fun w' s3 I3 rw'=>⟨v,H2,I3,rw',q2⟩⟩
theorem zmR (hu:X.A.units + 1 < cLine) (hi:PE X i ty) (ho:PE X o td):PC X .NotIn i o (znC ty td):=by
 intro pins s σ H Q I h
 refine thn (hi pins s σ H _ I h) fun iv s1 ⟨y,H1,I1,ry,q1⟩=>thn (ho pins s1 σ H1 _ I1 q1) fun u s2 ⟨x,H2,I2,rx,a,ov,ex,g,q2⟩=>?_
 subst ex
 obtain rfl:u=Value.ref a:=rx
 exact zqM hu I2 g ry fun s3 I3=>⟨.bl (!ov.isSome),H2,I3,rfl,q2⟩
theorem zrd (hu:X.A.units + 1 < cLine) (ho:PE X o td) (hi:PE X i ty) (hv:PE X value tv) (hs:swapsWith value (some (.Subscript o i pos')) pos.line X.env=pure false) :
  PS X (.Assign [.Subscript o i pos'] value pos) (ztY td ty tv):=by
 intro pins s σ H D I h
 refine wpAny_Assign_Subscript (thn (hv pins s σ H _ I h) fun r s1 ⟨v,H1,I1,rv,q1⟩=>thn (ho pins s1 σ H1 _ I1 q1) fun u s2 ⟨x,H2,I2,rx,q2⟩=>thn (hi pins s2 σ H2 _ I2 q2) fun iv s3 ⟨y,H3,I3,ry,a,H4,ex,g,q3⟩=>?_) hs
 subst ex
 obtain rfl:u=Value.ref a:=rx
 exact znA hu I3 g ry rv fun s4 I4=>⟨σ,H4,I4,q3⟩
end
theorem zoA {P:Program} {w:World} {H:Hp} (h:Heap) (hb:sysModules < h.objs.size):zdn P w H (h.push { cls := .type "dict",data := .dict #[] }) h.objs.size (.dK []) :=
 ⟨Nat.zero_le _,beq_eq_false_iff_ne.mpr (Ne.symm (Nat.ne_of_lt hb)),[], .nil,Heap.DictOf.new h⟩
def zr0:TE:=fun _ H Q=>∀ p,H p=none→Q (.ref p) (upd H p (.dK []))
section
variable {X:Cx} {pos:Pos}
theorem zoQ:PE X (.Dict [] [] pos) zr0:=fun pins s σ H Q I h =>
 wpAny_Dict_empty ⟨.ref s.heap.objs.size,_,I.laid (a:=s.heap.objs.size) (o := .dK []) (t':=s.toks) (fun _ _ q=>Heap.get?_push_of_some _ q) (Nat.le_refl _) (zoA s.heap I.big),rfl,h _ (I.hok.fresh (Nat.le_refl _))⟩
end
structure M1 (X:Cx) (o:Expr) (m:Str) (apos:Pos) (e:Expr) (cpos:Pos):Prop where
 base:attributeBase o m X.env (eval o X.env)=eval o X.env
 few:((backTo cpos (starEach [e] X.env)).all (fun x=>!x.1) && (backToKw cpos (keywordEach [] X.env)).all (fun x=>x.1.isSome)
  && decide (([e] : List Expr).length + ([] : List Keyword).length + (if ([] : List Keyword).isEmpty then 0 else 1) < 30))=true
 line:(apos.endLine == cpos.line)=true
 trees:backTo cpos (starEach [e] X.env)=[(false,eval e X.env)]
structure M2 (X:Cx) (o:Expr) (m:Str) (apos:Pos) (e f:Expr) (cpos:Pos):Prop where
 base:attributeBase o m X.env (eval o X.env)=eval o X.env
 few:((backTo cpos (starEach [e,f] X.env)).all (fun x=>!x.1) && (backToKw cpos (keywordEach [] X.env)).all (fun x=>x.1.isSome)
  && decide (([e,f] : List Expr).length + ([] : List Keyword).length + (if ([] : List Keyword).isEmpty then 0 else 1) < 30))=true
 line:(apos.endLine == cpos.line)=true
 trees:backTo cpos (starEach [e,f] X.env)=[(false,eval e X.env),(false,eval f X.env)]
def IsD (H:Hp) (a:Addr):Prop:=(∃ kvs,Rd H a (.dK kvs))∨∃ kvs,Rd H a (.dT kvs)
theorem zs2 {X:Cx} {pins:List (Addr × Obj)} {σ:St} {H:Hp} {s:Shared} {a:Addr} (I:Inv X pins σ H s) (d:IsD H a) :
  s.TypeIs (.ref a) "dict"∧(∀ b,Value.ref a = .ref b→∃ ob,s.heap.get? b=some ob∧ob.dict=none)∧(a == sysModules)=false:=by
 rcases d with ⟨kvs,e⟩ | ⟨kvs,e⟩
 ·obtain ⟨_,hd,vs,_,dd⟩:=zmq I.hok e
  refine ⟨dd.typeIs,fun b q=>?_,hd⟩
  cases q
  obtain ⟨ob,_,_,h1,h2,_⟩:=dd
  exact ⟨ob,h1,h2.2.1⟩
 ·obtain ⟨_,hd,xs,_,dd⟩:=zl2 I.hok e
  refine ⟨dd.typeIs,fun b q=>?_,hd⟩
  cases q
  obtain ⟨ob,_,_,h1,h2,_⟩:=dd
  exact ⟨ob,h1,h2.2.1⟩
section
variable {X:Cx} {pins:List (Addr × Obj)} {σ:St} {H:Hp} {s:Shared} {a:Addr} {y d:V} {u r:Value} {o:Option V} {A:Around} {E:Value→Shared→Prop}
theorem zrK {Q:Value→Shared→Prop} (hu:A.units + 1 < cLine) (I:Inv X pins σ H s) (g:DGet H a y o) (ry:RelV y u) (rd:RelV d r) (h:∀ w' s',Inv X pins σ H s'→RelV (o.getD d) w'→Q w' s') :
  wpAny (model X.prog X.w) A (call (.builtin "dict.get") [.ref a,u,r]) Q E s:=by
 rcases g with ⟨kvs,k,e,ey,l⟩ | ⟨kvs,k,b,e,ey,eb,l⟩
 ·subst ey
  obtain ⟨z,hd,vs,rel,dd⟩:=zmq I.hok e
  refine call_meetsIn PySem.F.slot_dict_get dd.typeIs PySem.F.entry_dict_get (PySem.F.args_dict_get_3 _ _ _) (meets_dict_get_default (zb8 X.prog X.w) a (zm2 ry) hd r) ⟨_,dd.mapOf,h _ _ (I.tok _) ?_⟩
  rw [l]
  exact (rel.val k).getD rd
 ·subst ey
  cases (show u=Value.ref b from ry)
  obtain ⟨z,hd,xs,rel,dd⟩:=zl2 I.hok e
  refine call_meetsIn PySem.F.slot_dict_get dd.typeIs PySem.F.entry_dict_get (PySem.F.args_dict_get_3 _ _ _) (meetsH_dict_get_default (tupleKind (zb8 X.prog X.w)) a b hd r) ⟨tupleKind_room_in1 hu,k,xs,zjv I.hok eb,dd,h _ _ (I.tok _) ?_⟩
  rw [l]
  exact (rel.val k).getD rd
end
def ztg (td ty tx:TE):TE:=fun σ H Q=>td σ H fun x H1=>∃ a,x = .ref a∧IsD H1 a∧ty σ H1 fun y H2=>tx σ H2 fun z H3=>∃ o,DGet H3 a y o∧Q (o.getD z) H3
section
variable {X:Cx} {o e f:Expr} {apos cpos:Pos} {td ty tx:TE}
theorem zoU (hu:X.A.units + 1 < cLine) (ho:PE X o td) (he:PE X e ty) (hf:PE X f tx) (m:M2 X o "get" apos e f cpos):PE X (.Call (.Attribute o "get" apos) [e,f] [] cpos) (ztg td ty tx):=by
 intro pins s σ H Q I h
 refine wpAny_Call_method m.base m.few m.line PySem.F.plainAttrs_dict PySem.F.slot_dict_get PySem.F.type_dict_get (thn (ho pins s σ H _ I h) fun u s1 ⟨x,H1,I1,rx,a,ex,d,q1⟩=>?_)
 subst ex
 obtain rfl:u=Value.ref a:=rx
 obtain ⟨t1,t2,_⟩:=zs2 I1 d
 refine ⟨t1,t2,?_⟩
 rw [m.trees]
 refine Calls.callWith_builtin rfl (Calls.evalArgs_plain (Calls.spliced_cons (thn (he pins s1 σ H1 _ I1 q1) fun iv s2 ⟨y,H2,I2,ry,q2⟩ =>
  Calls.spliced_cons (thn (hf pins s2 σ H2 _ I2 q2) fun fv s3 ⟨z,H3,I3,rz,ov,g,q3⟩=>Calls.spliced_nil ?_))))
 exact zrK hu I3 g ry rz fun w' s4 I4 rw'=>⟨_,H3,I4,rw',q3⟩
end
section
variable {X:Cx} {pins:List (Addr × Obj)} {σ:St} {H:Hp} {s:Shared} {a:Addr} {kvs:List (Key × V)} {A:Around} {E:Value→Shared→Prop}
end
section
variable {X:Cx} {pins:List (Addr × Obj)} {σ:St} {H:Hp} {s:Shared} {a:Addr} {y:V} {u:Value} {A:Around} {E:Value→Shared→Prop}
end
end L2
namespace Att
open PySem PySem.W PySem.Calls PyProof.Rows
theorem zhH {P:Params} {h:Heap}:∀ (ns:List Int) (vs:List Value),WellAll P h vs (ns.map WData.int)→IntsAre vs ns:=by
 intro ns
 induction ns with
 | nil =>
  intro vs w
  rw [List.map_nil] at w
  cases w
  exact .nil
 | cons n ns ih =>
  intro vs w
  rw [List.map_cons] at w
  cases w with
  | cons a b =>
   cases a
   exact .cons _ _ (ih _ b)
theorem znB {l:OpenLaw} {n:Nat} (hn:l.most=some n) {P:Params} {h:Heap} {args:List WData} {vals:List Value}
  (hpre:l.row.toRowW.claim.pre args=true) (hwl:WellAll P h vals args) :
  ∃ a vs ns,vals=[Value.ref a]∧args=[WData.list (ns.map WData.int)]∧h.get? a=some { cls := .type "list",data := .seq vs.toArray }∧IntsAre vs ns∧ns.length ≤ n:=by
 have hsh:WShape.hasAll [] args [.list .int]=true:=(pre_splitW hpre).1
 have hc:l.pre.holds [] { args:=args }=true:=(pre_splitW hpre).2
 obtain ⟨d,r,rfl,h1,h2⟩:=hasAllW_cons hsh
 obtain rfl:=hasAllW_nil h2
 obtain ⟨xs,rfl,h3⟩:=hasW_list h1
 obtain ⟨ns,rfl⟩:=items_int h3
 have hlen:ns.length ≤ n:=by
  unfold OpenLaw.pre at hc
  have h4:(WTm.not (.lt (.lit (.int (n:Int))) (.len (.arg 0)))).holds [] { args:=[.list (ns.map .int)] }=true:=by
   have h4:=(holds_andW hc).1
   rw [hn] at h4
   exact h4
  have h5:=condW_of h4 (w_not (w_lt w_lit (w_len_list (w_arg rfl))))
  rw [List.length_map] at h5
  refine Nat.le_of_not_lt fun q=>?_
  have q':(n:Int) < ((ns.length:Nat):Int):=by omega
  first
   | (rw [decide_eq_true q'] at h5;exact absurd h5 (by decide))
   | (simp at h5;omega)
 cases hwl with
 | cons w1 w2 =>
  cases w2
  cases w1 with
  | list ho hall=>exact ⟨_,_,ns,rfl,rfl,ho,zhH ns _ hall,hlen⟩
theorem znk (l:OpenLaw) (args:List WData):l.row.toRowW.claim.post args (.bool true) args=true :=
 postW_of (r:=l.row.toRowW) (X:=(true == true))
  (show WShape.has [] (.bool true) .bool=true by first | rfl | decide | simp [WShape.has,WShape.arms,WShape.armsAll])
  (show (WTm.eq .res (.lit (.bool true))).value [] { args:=args,res:=some (.bool true),after:=args }=some (.bool (true == true)) from w_eq_bool (w_res rfl) w_lit) rfl
theorem zkW {l:OpenLaw} {n:Nat} {q:Program} {loose:List Str} {XP:(Str→Option Value)→Heap→Prop} {YP:World→Heap→Prop} {d:DefRec}
  (hn:l.most=some n) (hdf:d.params.defaults=[])
  (call:∀ (w:World) (s₀ s₁:Shared) (mg mb:Str→Option Value) (fa:Addr) (o:Obj) (pm cd doc:Value) (a:Addr) (vs:List Value) (ns:List Int),
   Ground q loose [] XP w s₀ mg mb s₁.heap→YP w s₁.heap →
   s₁.heap.get? fa=some o→o.data = .func (docDef d.name d.params d.body d.scope pm cd doc)→s₁.heap.CodeRec cd d.name→mg d.name=some (.ref fa) →
   s₁.heap.get? a=some { cls := .type "list",data := .seq vs.toArray }→IntsAre vs ns→ns.length ≤ n→s₁.gens = #[] →
   codeAny (model l.prog w) callerA (.call (.ref fa) ⟨[.ref a],[]⟩) (fun r s'=>r = .ok (.ret (.bool true))∧OldK s₁.heap s'.heap∧s'.os=s₁.os∧AllBare s'.gens) s₁) :
  WalkO q loose XP YP l.row.toRowW d [] (fun f vs=>PySem.call f vs):=by
 intro w s₀ s₁ mg mb G Y fa o pm cd doc dV kV ho hd hcd hD hmg hg args vals as hpre hlay hrd hwl hlo
 obtain rfl:dV = .none:=Dflts.none hD hdf
 obtain rfl:kV = .none:=Dflts.noKw hD
 obtain ⟨a,vs,ns,rfl,rfl,hobj,hints,hlen⟩:=znB hn hpre hwl
 refine enter_call (codeAny_mono (call w s₀ s₁ mg mb fa o pm cd doc a vs ns G Y ho (fd_plain hd) hcd hmg hobj hints hlen hg) fun r s' hq=>?_)
 obtain ⟨rfl,h2,h3,h4⟩:=hq
 exact ⟨.inl ⟨.bool true, .bool true,[],rfl,fun _=>rfl, .bool true,znk l _,fun _=>⟨List.Pairwise.nil,fun _ hm=>(nomatch hm)⟩⟩,h2,h3,h4⟩
section
variable {prog:Program} {w:World} {A:Around} {E:Value→Shared→Prop} {s:Shared} {K:Frag}
def ledger (h:Heap) (L d:Addr):List (Addr × Obj):=(List.range h.objs.size).filterMap fun a=>if a=L∨a=d then none else (h.get? a).map fun o=>(a,o)
end
end Att
namespace L2
open PySem PySem.Spec PyProof.Rows
theorem zhm:∀ {vs:List Value} {ns:List Int},IntsAre vs ns→Vals (ns.map V.int) vs
 | _,_, .nil => .nil
 | _,_, .cons n t h => .cons ⟨t,rfl⟩ (zhm h)
end L2
namespace L2
open PySem PySem.Spec PyProof.Rows
end L2
namespace L2
open PySem PySem.Spec PyProof.Rows
def inClass (s:Stmt) (j:Nat):Stmt:=match s with
 | .ClassDef _ _ _ body _ _ _ _ _ _ _=>body.getD j (.Pass ⟨0,0,0,0⟩)
 | _ => .Pass ⟨0,0,0,0⟩
def zan (s:Stmt):Arguments:=match s with
 | .FunctionDef _ a _ _ _ _ _ _ _ _=>a
 | _=>{ posonlyargs:=[],args:=[],vararg:=none,kwonlyargs:=[],kw_defaults:=[],kwarg:=none,defaults:=[] }
def zaj (s:Stmt):List Stmt:=match s with
 | .FunctionDef _ _ b _ _ _ _ _ _ _=>b
 | _=>[]
def zab (s:Stmt):Scope:=match s with
 | .FunctionDef _ _ _ _ _ _ sc _ _ _=>sc
 | _=>{ kind := .function,names:=[],isGenerator:=false,isCoroutine:=false }
abbrev CX0:CXT:=fun _ _ _ _ _ _=>False
abbrev E0:XK:=fun _ _ _=>False
structure Fun (K:PySem.W.Frag) (x qual:Str) (st:Stmt) (f:Addr) (fd:FuncData):Prop where
 ex:∃ (oc:Value) (od:Option Addr) (kV doc pm:Value) (an:Option Addr) (cdv ct:Value) (osl:Array (Option Value)),
  fd=PySem.W.fnOf x qual (zan st) (zaj st) (zab st) .none kV doc pm an cdv ct∧K.lookup f=some ⟨oc,od, .func fd,osl⟩∧PySem.W.codeIn K cdv qual=true
 kp:PySem.W.keepIn K (.ref f)=true
section
variable {P:Program} {w:World} {K:PySem.W.Frag} {mg:Str→Option Value} {base:Heap}
theorem Fun.ok {x qual:Str} {st:Stmt} {f:Addr} {fd:FuncData} {N ps:List Str} {k:Nat} {sp:Sp} (F:Fun K x qual st f fd) (S:zaq N ps (zab st)) (len:∀ vs H Q E,sp vs H Q E→vs.length=ps.length)
  (hbody:∀ (cdv:Value) (A:Around) (outer:List Env) (s:Shared) (H:Hp) (vs:List V) (Q:VK) (E:XK),Room k (A.deeper (envOfC qual (zab st) s.heap.objs.size f cdv))→sp vs H Q E →
   ∃ t,PSs (cxOf CX0 P w K mg base N qual (zab st) f cdv A outer s H E).nox (zaj st) t∧t { nx:=fun _ H'=>Q .non H',rt:=Q } (start N vs) H):FnOk P w K mg base CX0 (k + 1) f fd ps sp:=by
 obtain ⟨oc,od,kV,doc,pm,an,cdv,ct,osl,rfl,lk,hcd⟩:=F.ex
 refine zoG lk hcd S len fun A outer s H vs Q E hr hsp=>?_
 obtain ⟨t,h,q⟩:=hbody cdv A outer s H vs Q E hr hsp
 exact ⟨t,h.nox,q⟩
theorem Fun.binds {x qual:Str} {st:Stmt} {f:Addr} {fd:FuncData} {ps:List Str} (F:Fun K x qual st f fd)
  (h:∀ (kV doc pm:Value) (an:Option Addr) (cdv ct:Value) (us:List Value),us.length=ps.length→bindArgs (PySem.W.fnOf x qual (zan st) (zaj st) (zab st) .none kV doc pm an cdv ct) ⟨us,[]⟩ = pure (ps.zip us)):Binds K fd ps []:=by
 obtain ⟨oc,od,kV,doc,pm,an,cdv,ct,osl,rfl,lk,hcd⟩:=F.ex
 exact .all (h kV doc pm an cdv ct)
theorem zjV {x qual:Str} {st:Stmt} {f:Addr} {oc:Value} {od an:Option Addr} {osl:Array (Option Value)} {kV doc pm cdv ct:Value} (l:K.lookup f=some ⟨oc,od, .func (PySem.W.fnOf x qual (zan st) (zaj st) (zab st) .none kV doc pm an cdv ct),osl⟩)
  (c:PySem.W.codeIn K cdv qual=true) (k:PySem.W.keepIn K (.ref f)=true):Fun K x qual st f (PySem.W.fnOf x qual (zan st) (zaj st) (zab st) .none kV doc pm an cdv ct):=⟨⟨oc,od,kV,doc,pm,an,cdv,ct,osl,rfl,l,c⟩,k⟩
end
section
variable {X:Cx}
end
def Same (H H':Hp):Prop:=∀ b o,H b=some o→H' b=some o
theorem Same.refl (H:Hp):Same H H:=fun _ _ h=>h
theorem Same.trans {H H1 H2:Hp} (a:Same H H1) (b:Same H1 H2):Same H H2:=fun c o h=>b c o (a c o h)
theorem Same.free {H H':Hp} (e:Same H H') {l:Addr} (h:H' l=Option.none):H l=Option.none:=by
 cases q:H l with
 | none=>rfl
 | some o =>
  rw [e l o q] at h
  cases h
theorem Same.seq {K:PySem.W.Frag} {H H':Hp} {a:Addr} {xs:List V} (e:Same H H') (h:SqL K H a xs):SqL K H' a xs:=by
 rcases h with (h | ⟨o,h⟩) | h
 ·exact .inl (.inl (e _ _ h))
 ·exact .inl (.inr ⟨o,e _ _ h⟩)
 ·exact .inr h
section
variable {κ:Type} [DecidableEq κ]
end
end L2
namespace L2
open PySem
theorem zlb (env:Env):∀ (names:List (Str × NameKind)) (cs:List (Str × Addr)),(∀ y ∈ names,y.2 = .free→∃ c,env.cells.lookup y.1=some c) →
  ∃ cl,(forIn names cs (fun (x:Str × NameKind) (cs:List (Str × Addr))=>(match x with | (name,kind)=>if (kind == NameKind.free)=true then (do let c ← cellOf env name;pure (ForInStep.yield ((name,c) :: cs))) else pure (ForInStep.yield cs))):Sem (List (Str × Addr)))=pure cl ∧
   (∀ x c,cl.lookup x=some c→cs.lookup x=some c∨env.cells.lookup x=some c)∧(∀ y ∈ names,y.2 = .free→∃ c,cl.lookup y.1=some c)∧(∀ x c,cs.lookup x=some c→∃ c',cl.lookup x=some c')
 | [],cs,_=>⟨cs,rfl,fun _ _ h => .inl h,fun _ h=>(nomatch h),fun _ c h=>⟨c,h⟩⟩
 | (n,k) :: r,cs,h=>by
  by_cases hk:k = .free
  ·subst hk
   obtain ⟨c,hc⟩:=h (n, .free) (List.mem_cons_self ..) rfl
   obtain ⟨cl,e,h1,h2,h3⟩:=zlb env r ((n,c) :: cs) fun y hy=>h y (List.mem_cons_of_mem _ hy)
   refine ⟨cl,?_,fun x d hd=>?_,fun y hy hf=>?_,fun x d hd=>?_⟩
   ·rw [List.forIn_cons]
    simp only [beq_self_eq_true,if_true,cellOf,hc,pure_bind]
    exact e
   ·rcases h1 x d hd with q | q
    ·rw [List.lookup_cons] at q
     split at q
     ·rename_i hx
      have hx':x=n:=by simpa using hx
      subst hx'
      exact .inr (hc.trans q)
     ·exact .inl q
    ·exact .inr q
   ·rcases List.mem_cons.mp hy with e' | e'
    ·subst e'
     exact h3 n c (by simp)
    ·exact h2 y e' hf
   ·by_cases hx:x=n
    ·subst hx
     exact h3 x c (by simp)
    ·have hb:(x == n)=false:=by simpa using hx
     exact h3 x d (by rw [List.lookup_cons,hb];exact hd)
  ·obtain ⟨cl,e,h1,h2,h3⟩:=zlb env r cs fun y hy=>h y (List.mem_cons_of_mem _ hy)
   have hb:(k == NameKind.free)=false:=by simpa using hk
   refine ⟨cl,?_,h1,fun y hy hf=>?_,h3⟩
   ·rw [List.forIn_cons]
    simp only [hb,Bool.false_eq_true,if_false,pure_bind]
    exact e
   ·rcases List.mem_cons.mp hy with e' | e'
    ·subst e';exact absurd hf hk
    ·exact h2 y e' hf
theorem zfE {scope:Scope} {env:Env} (h:∀ y ∈ scope.names,y.2 = .free→∃ c,env.cells.lookup y.1=some c) :
  ∃ cl,closureFor scope env=pure cl∧(∀ x c,cl.lookup x=some c→env.cells.lookup x=some c)∧∀ y ∈ scope.names,y.2 = .free→∃ c,cl.lookup y.1=some c:=by
 obtain ⟨cl,e,h1,h2,_⟩:=zlb env scope.names [] h
 refine ⟨cl,?_,fun x c hc=>(h1 x c hc).resolve_left (by simp),h2⟩
 unfold closureFor
 refine Eq.trans (congrArg (fun m=>m >>= fun cs=>pure cs) e) ?_
 rfl
section
variable {prog:Program} {w:World} {A:Around} {E:Value→Shared→Prop} {s:Shared}
end
end L2
namespace L2
open PySem PySem.Spec PyProof.Rows
section
variable {prog:Program} {w:World} {A:Around} {R:Result→Shared→Prop} {s:Shared}
theorem zjY {elt target iter:Expr} {ifs:List Expr} {scope:Scope} {pos:Pos} {it acc:Value} {env:Env} (I:Nat→Shared→Prop)
  (turn:∀ n s,I n s→wpAny (model prog w) A (pyNext it) (fun r s₁=>match r with
   | none=>R (.ok .next) s₁
   | some v=>wpAny (model prog w) A (letOwnedTupleGo target it v) (fun _ s₁'=>wpAny (model prog w) A (assign target env v) (fun _ s₂ =>
     wpAny (model prog w) A (forIn ifs true fun c r=>if r=true then do let ok ← isTrue c env (eval c env);pure (ForInStep.yield ok) else pure (ForInStep.yield r)) (fun ok s₃ =>
      if ok=true then wpAny (model prog w) A (eval elt env) (fun x s₄ =>
       wpAny (model prog w) A (call (.builtin "list.append") [acc,x]) (fun _ s₅=>∃ m,m < n∧I m s₅) (fun _ _=>False) s₄) (fun _ _=>False) s₃
      else ∃ m,m < n∧I m s₃) (fun _ _=>False) s₂) (fun _ _=>False) s₁') (fun _ _=>False) s₁) (fun _ _=>False) s)
  (n:Nat) (h:I n s) :
  codeAny (model prog w) A (.compLoop (.ListComp elt [⟨target,iter,ifs,0⟩] scope pos) 0 it acc env) R s:=by
 refine codeAny_loop rfl I (fun n s hI=>?_) n h
 show wpAny _ A ((compTurn (.ListComp elt [⟨target,iter,ifs,0⟩] scope pos) 0 it acc env).onRaise (fun x=>do noteFrame x env;theTreesLotGoes x)) _ _ s
 refine wpAny_noted ?_
 rw [compTurn_list]
 refine wpAny_bind (wpAny_standAt (wpAny_bind (wpAny_mono (turn n s hI) (fun r s₁ h₁=>?_) fun _ _ h'=>h'.elim)))
 cases r with
 | none=>exact wpAny_pure h₁
 | some v =>
  refine wpAny_bind (wpAny_mono h₁ (fun _ s₁' h₁'=>?_) fun _ _ h'=>h'.elim)
  refine wpAny_bind (wpAny_mono h₁' (fun _ s₂ h₂=>wpAny_bind (wpAny_mono h₂ (fun ok s₃ h₃=>?_) fun _ _ h'=>h'.elim)) fun _ _ h'=>h'.elim)
  cases ok with
  | false=>exact wpAny_pure ⟨rfl,h₃⟩
  | true =>
   exact wpAny_bind (wpAny_bind (wpAny_mono h₃ (fun x s₄ h₄=>wpAny_bind (wpAny_mono h₄ (fun _ s₅ h₅=>wpAny_pure (wpAny_pure ⟨rfl,h₅⟩)) fun _ _ h'=>h'.elim)) fun _ _ h'=>h'.elim))
end
def PIf (X:Cx) (ifs:List Expr) (t:TT):Prop :=
 ∀ (pins:List (Addr × Obj)) (s:Shared) (σ:St) (H:Hp) (Q:Bool→Hp→Prop),Inv X pins σ H s→t σ H Q →
  wpAny (model X.prog X.w) X.A (forIn ifs true fun c r=>if r=true then do let ok ← isTrue c X.env (eval c X.env);pure (ForInStep.yield ok) else pure (ForInStep.yield r)) (TP X pins σ Q) X.xe s
def tYes:TT:=fun _ H Q=>Q true H
theorem zqp {X:Cx}:PIf X [] tYes:=fun _ _ _ H _ I h=>wpAny_tests_nil ⟨H,I,h⟩
theorem zqR {X:Cx} {c:Expr} {t:TT} (h:PT X c t):PIf X [c] t:=fun pins s σ H Q I q=>wpAny_tests_one (h pins s σ H Q I q)
def lcCx (X:Cx) (scope:Scope) (ls:List Str) (js:List Nat) (cl:List (Str × Addr)) (C:Addr) (s:Shared) (H:Hp) (fp:List Addr):Cx :=
 { X with N:=ls ++ js.map (fun j=>X.N.getD j Str.empty),s₀:=s,H₀:=H,env:=compEnvC scope cl C X.env,outer:=X.stack,ex:=fp,fn:=fun _=>false,xe:=fun _ _=>False }
def lcSt (ls:List Str) (js:List Nat) (σ:St):St:=ls.map (fun _=>none) ++ js.map (fun j=>(σ[j]?).join)
def gk (env:Env) (n:Str) (k:NameKind):NameKind:=if (k == NameKind.free && env.scope.kind == .function && env.kindOf n == some .cell)=true then .cell else k
theorem zlN (env:Env) (names:List (Str × NameKind)):(names.map fun (n,k)=>if (k == NameKind.free && env.scope.kind == .function && env.kindOf n == some .cell) then (n,NameKind.cell) else (n,k))=names.map fun p=>(p.1,gk env p.1 p.2):=by
 refine List.map_congr_left fun p _=>?_
 obtain ⟨n,k⟩:=p
 show (if (k == NameKind.free && env.scope.kind == .function && env.kindOf n == some .cell)=true then (n,NameKind.cell) else (n,k))=(n,gk env n k)
 unfold gk
 split <;> rfl
theorem zgj (env:Env) (x:Str):∀ names:List (Str × NameKind),(names.map fun p=>(p.1,gk env p.1 p.2)).lookup x=(names.lookup x).map (gk env x)
 | []=>rfl
 | (n,k) :: r=>by
  rw [List.map_cons]
  cases hx:x == n with
  | true =>
   have e:x=n:=by simpa using hx
   subst e
   rw [List.lookup_cons,List.lookup_cons]
   simp
  | false =>
   rw [List.lookup_cons,List.lookup_cons]
   simp only [hx]
   exact zgj env x r
theorem lookup_mem {x:Str} {k:NameKind}:∀ {names:List (Str × NameKind)},names.lookup x=some k→(x,k) ∈ names
 | [],h=>by simp at h
 | (n,k') :: r,h=>by
  rw [List.lookup_cons] at h
  cases hx:x == n with
  | true =>
   have e:x=n:=by simpa using hx
   subst e
   simp only [beq_self_eq_true] at h
   cases h
   exact List.mem_cons_self ..
  | false =>
   simp only [hx] at h
   exact List.mem_cons_of_mem _ (lookup_mem h)
theorem zcl {env:Env} {names:List (Str × NameKind)} {x:Str} (h:names.lookup x=some .free) :
  (names.map fun (n,k)=>if (k == NameKind.free && env.scope.kind == .function && env.kindOf n == some .cell) then (n,NameKind.cell) else (n,k)).lookup x=some .cell ∨
  (names.map fun (n,k)=>if (k == NameKind.free && env.scope.kind == .function && env.kindOf n == some .cell) then (n,NameKind.cell) else (n,k)).lookup x=some .free:=by
 rw [zlN,zgj,h]
 show some (gk env x .free)=some .cell∨some (gk env x .free)=some .free
 unfold gk
 split
 ·exact .inl rfl
 ·exact .inr rfl
theorem ze0 {env:Env} {names:List (Str × NameKind)} {x:Str} (hc:∀ y ∈ names,y.2 ≠ .cell)
  (h:(names.map fun (n,k)=>if (k == NameKind.free && env.scope.kind == .function && env.kindOf n == some .cell) then (n,NameKind.cell) else (n,k)).lookup x=some .cell ∨
   (names.map fun (n,k)=>if (k == NameKind.free && env.scope.kind == .function && env.kindOf n == some .cell) then (n,NameKind.cell) else (n,k)).lookup x=some .free):(x,NameKind.free) ∈ names:=by
 rw [zlN,zgj] at h
 cases e:names.lookup x with
 | none=>rw [e] at h;rcases h with h | h <;> cases h
 | some k =>
  have hm:=lookup_mem e
  by_cases hk:k = .free
  ·rw [hk] at hm;exact hm
  ·rw [e] at h
   have hg:gk env x k=k:=by
    unfold gk
    have hb:(k == NameKind.free)=false:=by simpa using hk
    rw [hb]
    rfl
   have h':gk env x k = .cell∨gk env x k = .free:=h.imp (fun z=>Option.some.inj z) fun z=>Option.some.inj z
   rw [hg] at h'
   rcases h' with z | z
   ·exact absurd z (hc _ hm)
   ·exact absurd z hk
structure LcOk (X:Cx) (scope:Scope) (ls:List Str) (js:List Nat):Prop where
 kind:scope.kind = .function
 cell:∀ y ∈ scope.names,y.2 ≠ .cell
 names:∀ y ∈ scope.names,y.2 = .local→scope.names.lookup y.1=some .local
 free:∀ y ∈ scope.names,y.2 = .free→X.env.kindOf y.1=some .cell∨X.env.kindOf y.1=some .free
 cap:∀ j ∈ js,∃ x,X.N[j]? = some x∧scope.names.lookup x=some .free
section
variable {X:Cx} {pins:List (Addr × Obj)} {σ:St} {H:Hp} {s:Shared}
theorem zq8 {scope:Scope} {ls:List Str} {js:List Nat} {cl:List (Str × Addr)} {C:Addr} {fp:List Addr} (L:LcOk X scope ls js) (I:Inv X pins σ H s)
  (h1:∀ x c,cl.lookup x=some c→X.env.cells.lookup x=some c) (h2:∀ y ∈ scope.names,y.2 = .free→∃ c,cl.lookup y.1=some c)
  {s':Shared} {H':Hp} (hC:s'.heap.objs.size ≤ C) (bs:∀ b o,X.base.get? b=some o→s'.heap.get? b=some o∧H' b=none) (bsz:X.base.objs.size ≤ s'.heap.objs.size)
  (funs:s'.heap.FunFrames X.base X.stack) (frf:∀ b ∈ frs X.stack,H' b=none)
  (exf:∀ b ∈ fp,b ≠ C∧∀ x c,X.env.cells.lookup x=some c→c ≠ b) (noex:∀ b o,X.base.get? b=some o→b ∉ fp) (exfs:∀ b ∈ fp,b ∉ frs X.stack) :
  (lcCx X scope ls js cl C s' H' fp).Ok where
 mod:=I.ok.mod
 kind:=L.kind
 glob:=I.ok.glob
 blt:=I.ok.blt
 above:=hC
 inj:=fun x y c a b=>I.ok.inj x y c (h1 x c a) (h1 y c b)
 has:=fun x hx=>h2 (x, .free) (ze0 (env:=X.env) L.cell hx) rfl
 cab:=fun x c z=>by cases z
 hd:=I.ok.hd
 frames:=I.ok.frames
 stk := .inl rfl
 exf:=fun b hb=>⟨(exf b hb).1,fun x c e=>(exf b hb).2 x c (h1 x c e)⟩
 bs:=bs
 bsz:=bsz
 noex:=noex
 exfs:=exfs
 funs:=funs
 frf:=frf
theorem zoz {ls:List Str} {js:List Nat} {i:Nat} {v:V} (h:(lcSt ls js σ)[i]? = some (some v)):∃ k j,i=ls.length + k∧js[k]? = some j∧σ[j]? = some (some v):=by
 unfold lcSt at h
 by_cases hi:i < ls.length
 ·rw [List.getElem?_append_left (by simpa using hi),List.getElem?_map] at h
  cases e:ls[i]? with
  | none=>rw [e] at h;cases h
  | some y=>rw [e] at h;cases h
 ·rw [List.getElem?_append_right (by simpa using Nat.le_of_not_lt hi),List.getElem?_map,List.length_map] at h
  cases e:js[i - ls.length]? with
  | none=>rw [e] at h;cases h
  | some j =>
   rw [e] at h
   refine ⟨i - ls.length,j,by omega,e,?_⟩
   have h':(σ[j]?).join=some v:=Option.some.inj h
   cases q:σ[j]? with
   | none=>rw [q] at h';cases h'
   | some o =>
    rw [q] at h'
    exact congrArg some h'
def LcR (ls:List Str) (js:List Nat) (g:TG) (tc:TT) (te:TE) (σ:St) (Q:VK) (J:It) (H1:Hp):Prop:=∀ D,H1 D=none →
 ∃ W:Nat→Nat→St→Hp→Prop,(∃ m,W 0 m (lcSt ls js σ) (upd H1 D (.lst [])))∧∀ i m σ' H',W i m σ' H' →
  (J.stop i H'∧Q (.ref D) H')∨(J.go i H'∧∃ N:St→Hp→Prop,(∀ σ2 H2,N σ2 H2→∃ m',m' < m∧W (i + 1) m' σ2 H2) ∧
   ∀ x H2,J.yld i H' x H2→g x σ' H2 fun σ3 H3=>tc σ3 H3 fun c H4=>if c=true then te σ3 H4 fun y H5=>∃ ys,H5 D=some (.lst ys)∧ys.length < sizeLine∧N σ3 (upd H5 D (.lst (ys ++ [y]))) else N σ3 H4)
def tLC (ls:List Str) (js:List Nat) (wi:TI) (g:TG) (tc:TT) (te:TE):TE:=fun σ H Q=>wi σ H (LcR ls js g tc te σ Q)
theorem ztq {elt tg iter:Expr} {ifs:List Expr} {scope:Scope} {pos:Pos} {ls:List Str} {js:List Nat} {wi:TI} {g:TG} {tc:TT} {te:TE} (hc:X.calm=true) (L:LcOk X scope ls js) (hi:PI X tg iter wi)
  (hb:∀ cl C s H fp,PG (lcCx X scope ls js cl C s H fp) tg g∧PIf (lcCx X scope ls js cl C s H fp) ifs tc∧PE (lcCx X scope ls js cl C s H fp) elt te)
  (hs:∀ x,foldedSetIterable iter X.env x=pure x:=by intro _;rfl):PE X (.ListComp elt [⟨tg,iter,ifs,0⟩] scope pos) (tLC ls js wi g tc te):=by
 intro pins s σ H Q I h
 obtain ⟨cl,hcl,hk1,hk2⟩:=zfE (scope:=scope) (env:=X.env) fun y hy hf=>I.ok.has y.1 (L.free y hy hf)
 rw [eval_ListComp]
 refine wpAny_comprehension_free (use:=none) rfl hs hcl L.kind L.names (thn (hi pins s σ H _ I h) fun v s1 h1=>thn h1 fun itv s2 h2=>?_)
 obtain ⟨it,fp,tn,J,H1,e,I2,T,st2,f2,h2⟩:=h2
 subst e
 refine wpAny_newObj_type (wpAny_newFunctionEnv L.cell (by intro y hy;simp at hy) (fun h₁ hns₁ hsb₁=>?_) L.kind)
 dsimp only at hns₁ hsb₁ ⊢
 generalize hH2:s2.heap.push { cls := .type "list",dict:=none,data := .seq ([] : List Value).toArray }=G2 at hns₁ hsb₁ ⊢
 have hCz:G2.objs.size=s2.heap.objs.size + 1:=by rw [← hH2,Heap.size_push]
 have hD0:H1 s2.heap.objs.size=none:=I2.hok.fresh (Nat.le_refl _)
 have hC0:H1 G2.objs.size=none:=I2.hok.fresh (by omega)
 have hDC:s2.heap.objs.size ≠ G2.objs.size:=by omega
 have hG2D:G2.get? s2.heap.objs.size=some { cls := .type "list",dict:=none,data := .seq ([] : List Value).toArray }:=by rw [← hH2];exact Heap.get?_push_size _ rfl
 have keepG:∀ b o,s2.heap.get? b=some o→G2.get? b=some o:=fun b o e=>by rw [← hH2];exact Heap.get?_push_of_some _ e
 have I3:Inv X pins σ (upd H1 s2.heap.objs.size (.lst [])) { s2 with heap:=G2,toks:=s2.toks } :=
  I2.laid (t':=s2.toks) keepG (Nat.le_refl _) (show zdn X.prog X.w _ G2 _ (.lst []) from ⟨by simp,[],0, .nil,hG2D⟩)
 have keep1:∀ b o,G2.get? b=some o→h₁.get? b=some o:=fun b o e=>(hsb₁.2 b (Nat.ne_of_lt (Heap.lt_size e))).trans (Heap.get?_push_of_some _ e)
 have I4:Inv X pins σ (upd H1 s2.heap.objs.size (.lst [])) { s2 with heap:=h₁,toks:=s2.toks + 0 }:=I3.kept (h':=h₁) (t':=s2.toks + 0) keep1
 generalize hT:(H1,(⟨tg,iter,ifs,0⟩ : Comprehension))=junk
 clear hT junk
 have fpsz:∀ b ∈ fp,b < s2.heap.objs.size:=fun b hb=>by
  obtain ⟨o,e,_⟩:=T.obj 0 _ st2 b hb
  exact Heap.lt_size e
 have fpD:s2.heap.objs.size ∉ fp:=fun z=>Nat.lt_irrefl _ (fpsz _ z)
 have fpC:∀ b ∈ fp,b ≠ G2.objs.size:=fun b hb=>Nat.ne_of_lt (by rw [hCz];exact Nat.lt_succ_of_lt (fpsz b hb))
 have okC:(lcCx X scope ls js cl G2.objs.size { s2 with heap:=G2 } (upd H1 s2.heap.objs.size (.lst [])) fp).Ok:=by
  refine zq8 L I3 hk1 hk2 (Nat.le_refl _) I3.bs (Nat.le_trans I3.ok.bsz I3.sz) I3.stack I3.zk6 (fun b hb=>⟨fpC b hb,(f2 b hb).2.2.2.2.1⟩) (fun b o e hb=>?_) (fun b hb z=>?_)
  ·rcases (f2 b hb).2.2.2.1 with q | q
   ·exact I2.ok.noex b o e q
   ·exact absurd (Nat.lt_of_lt_of_le (Heap.lt_size (I2.ok.bs b o e).1) q) (Nat.lt_irrefl _)
  ·rcases List.mem_cons.mp (I3.zin b z) with q | q
   ·exact (f2 b hb).2.1 q
   ·exact (f2 b hb).2.2.1 q
 have IC:Inv (lcCx X scope ls js cl G2.objs.size { s2 with heap:=G2 } (upd H1 s2.heap.objs.size (.lst [])) fp) [] (lcSt ls js σ) (upd H1 s2.heap.objs.size (.lst [])) { s2 with heap:=h₁,toks:=s2.toks + 0 }:=by
  refine ⟨okC,rfl,I4.bare,Un.kept keep1,⟨_,hns₁,fun i x v e1 e2 e3=>?_⟩,fun x c e=>I4.cell x c (hk1 x c e),?_,fun x c e=>I4.freeC x c (hk1 x c e),fun p hp=>?_,I4.hok,?_⟩
  ·obtain ⟨k,j,hi',hj,hσ⟩:=zoz e2
   obtain ⟨y,hy,hyf⟩:=L.cap j (List.mem_of_getElem? hj)
   have hxy:x=y:=by
    have e1':(ls ++ js.map (fun j=>X.N.getD j Str.empty))[i]? = some x:=e1
    rw [hi',List.getElem?_append_right (Nat.le_add_right ..),Nat.add_sub_cancel_left,List.getElem?_map,hj] at e1'
    have e1'':X.N.getD j Str.empty=x:=Option.some.inj e1'
    rw [← e1'',List.getD_eq_getElem?_getD,hy]
    rfl
   subst hxy
   have hkf:X.env.kindOf x=some .cell∨X.env.kindOf x=some .free:=by
    have hm:(x,NameKind.free) ∈ scope.names:=by
     have q:=ze0 (env:=X.env) L.cell (zcl (env:=X.env) hyf)
     exact q
    exact L.free _ hm rfl
   obtain ⟨m,hn,hl⟩:=I4.loc
   obtain ⟨u,r,l⟩:=hl j x v hy hσ (hkf.elim (fun z => .inr (.inl z)) fun z => .inr (.inr z))
   refine ⟨u,r, .inr ⟨zcl (env:=X.env) hyf,?_⟩⟩
   rcases l with ⟨kl,_⟩ | ⟨_,c,hc',z⟩
   ·rcases hkf with q | q
    ·rw [q] at kl;cases kl
    ·rw [q] at kl;cases kl
   ·have hm:(x,NameKind.free) ∈ scope.names:=ze0 (env:=X.env) L.cell (zcl (env:=X.env) hyf)
    obtain ⟨c',hc''⟩:=hk2 _ hm rfl
    have:=hk1 _ _ hc''
    rw [hc'] at this
    cases this
    exact ⟨c,hc'',z⟩
  ·show upd H1 s2.heap.objs.size (.lst []) G2.objs.size=none
   rw [zap (Ne.symm hDC)]
   exact hC0
  ·have hp':p ∈ X.pn:=by simpa [lcCx] using hp
   obtain ⟨e,n,ne,nf,d⟩:=I4.pin p (List.mem_append_left _ hp')
   obtain ⟨e3,_⟩:=I3.pin p (List.mem_append_left _ hp')
   refine ⟨e,n,?_,fun z=>?_,d⟩
   ·exact Nat.ne_of_lt (Heap.lt_size e3)
   ·rcases List.mem_cons.mp (I3.zin p.1 z) with q | q
    ·exact ne q
    ·exact nf q
  ·simp [lcSt,lcCx]
 obtain ⟨hbG,hbI,hbE⟩:=hb cl G2.objs.size { s2 with heap:=G2 } (upd H1 s2.heap.objs.size (.lst [])) fp
 obtain ⟨W,⟨m0,w0⟩,turn⟩:=h2 s2.heap.objs.size hD0
 have st0:tn 0 h₁:=T.keep _ _ _ st2 fun b hb o e=>keep1 b o (keepG b o e)
 have frz:∀ {H':Hp},(∀ b ∈ fp,H' b=none)→∀ b ∈ fp,FpOk (lcCx X scope ls js cl G2.objs.size { s2 with heap:=G2 } (upd H1 s2.heap.objs.size (.lst [])) fp) [] H' b:=fun hn b hb=>by
  refine ⟨hn b hb,fpC b hb,fun z=>?_, .inl hb,fun x c e=>(f2 b hb).2.2.2.2.1 x c (hk1 x c e),fun p hp=>?_⟩
  ·rcases List.mem_cons.mp (I3.zin b z) with q | q
   ·exact (f2 b hb).2.1 q
   ·exact (f2 b hb).2.2.1 q
  ·have hp':p ∈ X.pn:=by simpa [lcCx] using hp
   exact (f2 b hb).2.2.2.2.2 p (List.mem_append_left _ hp')
 have fr0:∀ b ∈ fp,(upd H1 s2.heap.objs.size (.lst [])) b=none:=fun b hb=>by
  rw [zap (show b ≠ s2.heap.objs.size from Nat.ne_of_lt (fpsz b hb))]
  exact (f2 b hb).1
 have loop:∀ s4:Shared,s4 = { s2 with heap:=h₁,toks:=s2.toks + 0 } →
   codeAny (model X.prog X.w) X.A (.compLoop (.ListComp elt [⟨tg,iter,ifs,0⟩] scope pos) 0 (.ref it) (.ref s2.heap.objs.size) (compEnvC scope cl G2.objs.size X.env))
    (compPost (model X.prog X.w) X.A X.xe none (EP X pins σ Q) (.ref s2.heap.objs.size) G2.objs.size) s4:=by
  rintro s4 rfl
  refine zjY (fun n s'=>∃ i σ' H',Inv (lcCx X scope ls js cl G2.objs.size { s2 with heap:=G2 } (upd H1 s2.heap.objs.size (.lst [])) fp) [] σ' H' s'∧tn i s'.heap∧(∀ b ∈ fp,H' b=none)∧W i n σ' H') ?_ m0 ⟨0,_,_,IC,st0,fr0,w0⟩
  rintro n s5 ⟨i,σ5,H5,I5,st5,fr5,w5⟩
  rcases turn i n σ5 H5 w5 with ⟨stop,qn⟩ | ⟨go,N,hN,step⟩
  ·refine thn (T.done (lcCx X scope ls js cl G2.objs.size { s2 with heap:=G2 } (upd H1 s2.heap.objs.size (.lst [])) fp) rfl rfl rfl hc i [] s5 σ5 H5 _ I5 (frz fr5) st5 stop) fun r s6 ⟨hr,I6⟩=>?_
   subst hr
   obtain ⟨m6,hn6,_⟩:=I6.loc
   refine ⟨m6,hn6,fun h' hsb=>⟨.ref s2.heap.objs.size,H5,?_,rfl,qn⟩⟩
   have un1:Un (frs X.stack) fp (upd H1 s2.heap.objs.size (.lst [])) H5 G2 s6.heap:=I6.base
   have un0:Un (frs X.stack) fp H1 (upd H1 s2.heap.objs.size (.lst [])) s2.heap G2:=Un.laid keepG (Nat.le_refl _) hD0
   have un:=un0.trans un1
   have neC:∀ b o,s2.heap.get? b=some o→b ≠ G2.objs.size:=fun b o e=>Nat.ne_of_lt (by rw [hCz];exact Nat.lt_succ_of_lt (Heap.lt_size e))
   have un':Un (frs X.stack) fp H1 H5 s2.heap h':=⟨fun b o e n a x=>(hsb.2 b (neC b o e)).trans (un.keep b o e n a x),fun b o e n a x=>by
    obtain ⟨sl,q⟩:=un.slot b o e n a x
    exact ⟨sl,(hsb.2 b (neC b o e)).trans q⟩,un.free,fun b o e x=>by
    obtain ⟨o',q⟩:=un.there b o e x
    exact ⟨o',(hsb.2 b (neC b o e)).trans q⟩,un.tups,un.frzs,un.tbls⟩
   have hok':HOk X.prog X.w H5 h':=fun b o e=>by
    refine (I6.hok b o e).stay (fun c u hc' q=>(hsb.2 c ?_).trans q) (fun _ q=>q) fun _ _ q=>q
    have hfree:H5 G2.objs.size=none:=I6.free
    rintro rfl
    rcases hc' with z | z
    ·subst z;rw [hfree] at e;cases e
    ·rw [hfree] at z;cases z
   refine I2.zoR (s':={ s6 with heap:=h' }) (ch:=fp) ?_ un' hok' I6.bare fun b hb=>⟨(f2 b hb).2.2.2.1,(f2 b hb).2.1,(f2 b hb).2.2.2.2.1,(f2 b hb).2.2.2.2.2⟩
   exact I6.os
  ·refine thn (T.item (lcCx X scope ls js cl G2.objs.size { s2 with heap:=G2 } (upd H1 s2.heap.objs.size (.lst [])) fp) rfl rfl rfl hc i [] s5 σ5 H5 _ I5 (frz fr5) st5 go) fun r s6 ⟨u,hr,h6⟩=>?_
   subst hr
   refine thn h6 fun _ s7 ⟨x,H7,I7,r7,y7,st7,fr7⟩=>?_
   have I7':=I7.pinned (frz fr7) (T.obj _ _ st7)
   refine thn (hbG _ s7 σ5 H7 x u _ I7' r7 (step x H7 y7)) fun _ s8 ⟨σ8,H8,I8,q8⟩=>?_
   refine thn (hbI _ s8 σ8 H8 _ I8 q8) fun ok s9 ⟨H9,I9,q9⟩=>?_
   have again:∀ {σa:St} {Ha:Hp} {sa:Shared},Inv (lcCx X scope ls js cl G2.objs.size { s2 with heap:=G2 } (upd H1 s2.heap.objs.size (.lst [])) fp) ([] ++ zjy fp s7.heap) σa Ha sa→N σa Ha →
     ∃ m,m < n∧∃ i σ' H',Inv (lcCx X scope ls js cl G2.objs.size { s2 with heap:=G2 } (upd H1 s2.heap.objs.size (.lst [])) fp) [] σ' H' sa∧tn i sa.heap∧(∀ b ∈ fp,H' b=none)∧W i m σ' H':=fun {σa Ha sa} Ia na=>by
    obtain ⟨m',hm,wa⟩:=hN σa Ha na
    refine ⟨m',hm,i + 1,σa,Ha,Ia.zg6,T.keep _ _ _ st7 fun b hb o e=>(Ia.pin (b,o) (List.mem_append_right _ (List.mem_append_right _ (ze3 hb e)))).1,fun b hb=>?_,wa⟩
    obtain ⟨o,e,d⟩:=T.obj _ _ st7 b hb
    exact (Ia.pin (b,o) (List.mem_append_right _ (List.mem_append_right _ (ze3 hb e)))).2.1
   cases ok with
   | false=>exact again I9 q9
   | true =>
    refine thn (hbE _ s9 σ8 H9 _ I9 q9) fun y s10 ⟨z,H10,I10,r10,ys,hD,hlt,nn⟩=>?_
    obtain ⟨zz,its,k,r,hl,e⟩:=I10.lstM hD
    refine call_meets F.slot_list_append ⟨_,e,rfl⟩ F.entry_list_append (F.args_list_append_2 _ _) (PySem.list_append s2.heap.objs.size its.toArray k y (by rw [List.size_toArray];omega)) ⟨e,?_⟩
    refine again (I10.lset (its':=its ++ [y]) (t':=s10.toks) hD e ?_ (r.append (.cons r10 .nil)) ?_) nn
    ·simp
    ·simp;omega
 exact codeAny_compStart_list (loop _ rfl) (T.self _ 0 _ _ _ st0 (loop _ rfl))
end
end L2
namespace L2
open PySem PySem.Spec PyProof.Rows
section
variable {X:Cx}
theorem zpm (hc:X.calm=true):zfo X (.builtin "sum") (fun xs H Q=>∃ (a:Addr) (ns:List Int),xs=[.ref a]∧SqL X.K H a (ns.map V.int)∧Q (.int ns.sum) H):=by
 intro pins s σ H xs us Q I r h
 obtain ⟨a,ns,rfl,hq,q⟩:=h
 obtain ⟨u,rfl,ru⟩:=vals1 r
 cases ru
 obtain ⟨its,rv,pl,hz⟩:=I.list hq
 have hi:IntsAre its ns:=intsAre_of rv
 obtain ⟨xs,hxs⟩:=hi.allInts.items
 have hl:s.heap.IsList a (intItems xs):=hxs ▸ pl.isList
 refine sum_intListG (I.ok.hd hc) hl fun h' tk t' hk=>?_
 have e:preSum (numAt xs) xs.size=ns.sum:=by
  rw [preSum_eq,List.take_of_length_le (by simp),← nums_intItems,← hxs,show its.toArray.toList=its from rfl,hi.numsOf]
 exact ⟨.int ns.sum,H,I.kept (t':=tk) hk,⟨t',by rw [e]⟩,q⟩
end
inductive Dt where
 | int (i:Int) | bl (b:Bool) | str (x:Str) | non | tup (ds:List Dt) | lst (ds:List Dt)
def Den (K:PySem.W.Frag) (H:Hp):Nat→V→Dt→Prop
 | _,v, .int j=>v = .int j
 | _,v, .bl b=>v = .bl b
 | _,v, .str x=>v = .str x
 | _,v, .non=>v = .non
 | 0,_, .tup _=>False
 | 0,_, .lst _=>False
 | n + 1,v, .tup ds=>∃ a xs,v = .ref a∧SqT K H a xs∧Paired (Den K H n) xs ds
 | n + 1,v, .lst ds=>∃ a xs,v = .ref a∧SqL K H a xs∧Paired (Den K H n) xs ds
theorem Same.seqT {K:PySem.W.Frag} {H H':Hp} {a:Addr} {xs:List V} (e:Same H H') (h:SqT K H a xs):SqT K H' a xs:=by
 rcases h with (h | ⟨o,h⟩) | h
 ·exact .inl (.inl (e _ _ h))
 ·exact .inl (.inr ⟨o,e _ _ h⟩)
 ·exact .inr h
theorem Den.same {K:PySem.W.Frag} {H H':Hp} (e:Same H H'):∀ {n:Nat} {v:V} {d:Dt},Den K H n v d→Den K H' n v d:=by
 intro n
 induction n with
 | zero=>intro v d h;cases d <;> first | exact h | exact h.elim
 | succ n ih =>
  intro v d h
  cases d with
  | tup ds =>
   obtain ⟨a,xs,h1,h2,h3⟩:=h
   exact ⟨a,xs,h1,e.seqT h2,Paired.mapP h3 fun _ _ q=>ih q⟩
  | lst ds =>
   obtain ⟨a,xs,h1,h2,h3⟩:=h
   exact ⟨a,xs,h1,e.seq h2,Paired.mapP h3 fun _ _ q=>ih q⟩
  | int i=>exact h
  | bl b=>exact h
  | str x=>exact h
  | non=>exact h
theorem Paired.get {α β:Type} {F:α→β→Prop}:∀ {l₁:List α} {l₂:List β} {i:Nat} {a:α},Paired F l₁ l₂→l₁[i]? = some a→∃ b,l₂[i]? = some b∧F a b
 | _,_,_,_, .nil,e=>by simp at e
 | _,_,0,_, .cons r _,e=>by simp at e;subst e;exact ⟨_,rfl,r⟩
 | _,_,i + 1,x, .cons _ t,e=>by
  obtain ⟨u,h1,h2⟩:=Paired.get (i:=i) (a:=x) t (by simpa using e)
  exact ⟨u,by simpa using h1,h2⟩
section
variable {X:Cx} {pins:List (Addr × Obj)} {σ:St} {H:Hp} {s:Shared}
end
section
variable {X:Cx}
end
end L2
namespace L2
open PySem PySem.Spec PyProof.Rows
structure HasFn (K:PySem.W.Frag) (mg:Str→Option Value) (x:Str) (st:Stmt):Prop where
 ex:∃ f fd,mg x=some (.ref f)∧Fun K x x st f fd
theorem zaC {K:PySem.W.Frag} {h:Heap} {mg:Str→Option Value} {x:Str} {st:Stmt} {f:Addr} {oc:Value} {od an:Option Addr} {osl:Array (Option Value)} {kV doc pm cdv ct:Value} (X:K.In h) (G:h.Ns mainGlobals mg)
  (a:PySem.W.nsIn K mainGlobals x=some (some (.ref f))) (l:K.lookup f=some ⟨oc,od, .func (PySem.W.fnOf x x (zan st) (zaj st) (zab st) .none kV doc pm an cdv ct),osl⟩)
  (c:PySem.W.codeIn K cdv x=true) (k:PySem.W.keepIn K (.ref f)=true):HasFn K mg x st:=⟨⟨f,_,PySem.W.mg_of X G a,zjV l c k⟩⟩
structure Def (P:Program) (w:World) (K:PySem.W.Frag) (mg:Str→Option Value) (base:Heap) (x:Str) (k:Nat) (ps:List Str) (sp:Sp):Prop where
 ex:∃ f fd,FnOk P w K mg base CX0 k f fd ps sp∧mg x=some (.ref f)∧PySem.W.keepIn K (.ref f)=true∧Binds K fd ps []
theorem Def.of {P:Program} {w:World} {K:PySem.W.Frag} {mg:Str→Option Value} {base:Heap} {x:Str} {st:Stmt} {N ps:List Str} {k:Nat} {sp:Sp} (h:HasFn K mg x st) (S:zaq N ps (zab st))
  (bind:∀ (kV doc pm:Value) (an:Option Addr) (cdv ct:Value) (us:List Value),us.length=ps.length→bindArgs (PySem.W.fnOf x x (zan st) (zaj st) (zab st) .none kV doc pm an cdv ct) ⟨us,[]⟩ = pure (ps.zip us))
  (len:∀ vs H Q E,sp vs H Q E→vs.length=ps.length)
  (hbody:∀ (f:Addr) (cdv:Value) (A:Around) (outer:List Env) (s:Shared) (H:Hp) (vs:List V) (Q:VK) (E:XK),Room k (A.deeper (envOfC x (zab st) s.heap.objs.size f cdv))→sp vs H Q E →
   ∃ t,PSs (cxOf CX0 P w K mg base N x (zab st) f cdv A outer s H E).nox (zaj st) t∧t { nx:=fun _ H'=>Q .non H',rt:=Q } (start N vs) H):Def P w K mg base x (k + 1) ps sp:=by
 obtain ⟨f,fd,hm,F⟩:=h.ex
 exact ⟨f,fd,F.ok S len (hbody f),hm,F.kp,F.binds bind⟩
theorem Same.new {H:Hp} {p:Addr} {o:HO} (h:H p=none):Same H (upd H p o):=fun b u e=>by rw [zap (zaK e h)];exact e
def Kept (l:Addr) (H H':Hp):Prop:=∀ b o,b ≠ l→H b=some o→H' b=some o
theorem Kept.upd (l:Addr) (H:Hp) (o:HO):Kept l H (upd H l o):=fun b u hb e=>by rw [zap hb];exact e
theorem Same.kept {l:Addr} {H H':Hp} (h:Same H H'):Kept l H H':=fun b o _ e=>h b o e
theorem Kept.trans {l:Addr} {H H1 H2:Hp} (a:Kept l H H1) (b:Kept l H1 H2):Kept l H H2:=fun c o hc e=>b c o hc (a c o hc e)
theorem Kept.seqT {K:PySem.W.Frag} {l:Addr} {H H':Hp} {a:Addr} {xs ys:List V} (e:Kept l H H') (hl:H l=some (.lst ys)) (h:SqT K H a xs):SqT K H' a xs:=by
 rcases h with (h | ⟨o,h⟩) | h
 ·exact .inl (.inl (e _ _ (zrq h hl (by intro z;cases z)) h))
 ·exact .inl (.inr ⟨o,e _ _ (zrq h hl (by intro z;cases z)) h⟩)
 ·exact .inr h
def IsTI (K:PySem.W.Frag) (H:Hp) (v:V) (ns:List Int):Prop:=∃ p,v = .ref p∧SqT K H p (ns.map V.int)
theorem IsTI.same {K:PySem.W.Frag} {H H':Hp} {v:V} {ns:List Int} (e:Same H H') (h:IsTI K H v ns):IsTI K H' v ns:=let ⟨p,a,b⟩:=h; ⟨p,a,e.seqT b⟩
theorem IsTI.kept {K:PySem.W.Frag} {l:Addr} {H H':Hp} {v:V} {ns:List Int} {ys:List V} (e:Kept l H H') (hl:H l=some (.lst ys)) (h:IsTI K H v ns):IsTI K H' v ns:=let ⟨p,a,b⟩:=h; ⟨p,a,e.seqT hl b⟩
def Rows (K:PySem.W.Frag) (H:Hp) (xs:List V) (rs:List (List Int)):Prop:=Paired (IsTI K H) xs rs
theorem Rows.same {K:PySem.W.Frag} {H H':Hp} {xs:List V} {rs:List (List Int)} (e:Same H H') (h:Rows K H xs rs):Rows K H' xs rs:=Paired.mapP h fun _ _ q=>q.same e
theorem Rows.kept {K:PySem.W.Frag} {l:Addr} {H H':Hp} {xs ys:List V} {rs:List (List Int)} (e:Kept l H H') (hl:H l=some (.lst ys)) (h:Rows K H xs rs):Rows K H' xs rs:=Paired.mapP h fun _ _ q=>q.kept e hl
end L2
namespace L2
open PySem PySem.Spec PyProof.Rows
def TbAt (h₀ h:Heap) (H:Hp) (x:Addr) (vs:Array Value):Prop :=
 ∃ T oT ts,vs[1]? = some (.ref T)∧T ≠ x∧h₀.get? T=none∧H T=none∧h.get? T=some oT∧oT.data = .fields ts∧3 < ts.size
def ExAt (h₀ h:Heap) (H:Hp) (x:Addr) (cls:Value) (dx:Option Addr) (tb:Bool):Prop :=
 h₀.get? x=none∧H x=none∧∃ oe vs,h.get? x=some oe∧oe.cls=cls∧oe.dict=dx∧oe.data = .fields vs∧1 < vs.size∧((tb=false∧vs[1]? = some .none)∨TbAt h₀ h H x vs)
theorem ExAt.any {h₀ h:Heap} {H:Hp} {x:Addr} {cls:Value} {dx:Option Addr} {tb:Bool} (e:ExAt h₀ h H x cls dx tb):ExAt h₀ h H x cls dx false:=by
 obtain ⟨a,b,oe,vs,c1,c2,c3,c4,c5,c6⟩:=e
 exact ⟨a,b,oe,vs,c1,c2,c3,c4,c5,c6.imp (fun z=>⟨rfl,z.2⟩) id⟩
structure Top1 (X:Cx):Prop where
 stk:X.stack=X.env :: X.outer
 frm:X.env.frame=some X.env.locals
 pn:X.pn=[]
theorem Top1.mem {X:Cx} (t:Top1 X) {b:Addr}:b ∈ frs X.stack↔b=X.env.locals∨b ∈ X.fs:=by
 rw [t.stk]
 unfold frs
 rw [List.filterMap_cons,t.frm]
 exact List.mem_cons
section
variable {X:Cx} {σ:St} {H:Hp} {s:Shared}
theorem Inv.recs {h':Heap} {ch:List Addr} (I:Inv X [] σ H s) (t:Top1 X) (hch:∀ b ∈ ch,X.s₀.heap.get? b=none∧H b=none∧∃ o vs,s.heap.get? b=some o∧o.data = .fields vs)
  (keep:∀ b o,b ∉ frs X.stack→b ∉ ch→s.heap.get? b=some o→h'.get? b=some o) (slot:∀ b o,b ∈ frs X.stack→s.heap.get? b=some o→∃ sl,h'.get? b=some { o with slots:=sl }) :
  Inv X [] σ H { s with heap:=h' }:=by
 have ncell:∀ c v,s.heap.IsCell c v→c ∉ ch:=fun c v ⟨o,ho,hd⟩ hc=>by
  obtain ⟨_,_,o',vs,e,d⟩:=hch c hc
  rw [ho] at e;cases e
  rw [hd] at d;cases d
 have any:∀ b o,b ∉ ch→s.heap.get? b=some o→∃ sl,h'.get? b=some { o with slots:=sl }:=fun b o hc e=>by
  by_cases hb:b ∈ frs X.stack
  ·exact slot b o hb e
  ·exact ⟨o.slots,keep b o hb hc e⟩
 have cellK:∀ c v,s.heap.IsCell c v→h'.IsCell c v:=fun c v z=>by
  obtain ⟨o,ho,hd⟩:=id z
  obtain ⟨sl,e⟩:=any c o (ncell c v z) ho
  exact ⟨_,e,hd⟩
 have old:∀ b o,X.s₀.heap.get? b=some o→b ≠ X.env.locals∧b ∉ ch:=fun b o e =>
  ⟨Nat.ne_of_lt (Nat.lt_of_lt_of_le (Heap.lt_size e) I.ok.above),fun hc=>by rw [(hch b hc).1] at e;cases e⟩
 have nfr:∀ b,b ≠ X.env.locals→b ∉ X.fs→b ∉ frs X.stack:=fun b h1 h2 z=>(t.mem.mp z).elim h1 h2
 refine ⟨I.ok,I.os,I.bare,⟨fun b o e n hb hx=>?_,fun b o e n hb hx=>?_,I.base.free,fun b o e hx=>?_,I.base.tups,I.base.frzs,I.base.tbls⟩,?_,fun x c e=>?_,I.free,I.freeC,fun p hp=>?_,fun b u e=>?_,I.len⟩
 ·exact keep b o (nfr b (old b o e).1 hb) (old b o e).2 (I.base.keep b o e n hb hx)
 ·obtain ⟨sl,e1⟩:=I.base.slot b o e n hb hx
  obtain ⟨sl',e2⟩:=any b _ (old b o e).2 e1
  exact ⟨sl',e2⟩
 ·obtain ⟨o',e1⟩:=I.base.there b o e hx
  obtain ⟨sl,e2⟩:=any b o' (old b o e).2 e1
  exact ⟨_,e2⟩
 ·obtain ⟨m,hn,hl⟩:=I.loc
  obtain ⟨o,es,ep,ho,hd,r⟩:=id hn
  have hLc:X.env.locals ∉ ch:=fun hc=>by
   obtain ⟨_,_,o',vs,e,d⟩:=hch _ hc
   rw [ho] at e;cases e
   rw [hd] at d;cases d
  obtain ⟨sl,e⟩:=any _ o hLc ho
  refine ⟨m,⟨_,es,ep,e,hd,r⟩,fun i x v e1 e2 e3=>?_⟩
  obtain ⟨u,ru,l⟩:=hl i x v e1 e2 e3
  refine ⟨u,ru,?_⟩
  rcases l with l | ⟨k,c,ec,z⟩
  ·exact .inl l
  ·exact .inr ⟨k,c,ec,cellK c _ z⟩
 ·obtain ⟨v,z⟩:=I.cell x c e
  exact ⟨v,cellK c v z⟩
 ·rw [t.pn] at hp
  simp at hp
 ·refine (I.hok b u e).stay (fun c v hc q=>keep c v ?_ ?_ q) (fun _ q=>q) fun _ _ q=>q
  ·intro z
   have f:=I.zk6 c z
   rcases hc with y | y
   ·rw [y,e] at f;cases f
   ·rw [y] at f;cases f
  ·intro z
   have f:=(hch c z).2.1
   rcases hc with y | y
   ·rw [y,e] at f;cases f
   ·rw [y] at f;cases f
variable {M:Model} {E:Value→Shared→Prop} {x:Addr} {cls:Value} {dx:Option Addr}
theorem ExAt.zoV (I:Inv X [] σ H s) {b:Addr} {o:Obj} {vs:Array Value} (e:s.heap.get? b=some o) (d:o.data = .fields vs):b ∉ frs X.stack:=fun hm=>by
 obtain ⟨_,o',ho,hnf⟩:=I.stack.mem hm
 rw [e] at ho;cases ho
 exact hnf vs d
theorem zlx (I:Inv X [] σ H s) (t:Top1 X) {oe:Obj} {vs:Array Value} {head:Value} {had:Bool} {Q:Unit→Shared→Prop} (hx0:X.s₀.heap.get? x=none) (hxH:H x=none) (he:s.heap.get? x=some oe) (hd:oe.data = .fields vs) (hsz:1 < vs.size)
  (q:∀ h',Inv X [] σ H { s with heap:=h' }→ExAt X.s₀.heap h' H x oe.cls oe.dict true→Q () { s with heap:=h' }) :
  wpAny M X.A (do let a ← frameOf X.env;let pl ← entryPlaceOf X.env.locals had;let b ← EntryCells.newEntry head a .none (rawInt X.env.locals) .none pl;setField (.ref x) 1 b) Q E s:=by
 have hfr:X.A.frames=some (X.env :: X.outer):=by rw [← t.stk];exact I.ok.frames
 have hl:s.heap.FunFrames X.base (X.env :: X.outer):=by rw [← t.stk];exact I.stack
 have hne:x ∉ frs X.stack:=ExAt.zoV I he hd
 have efr:(X.env :: X.outer).filterMap (·.frame)=frs X.stack:=by rw [t.stk];rfl
 refine wpAny_bind (wpAny_frameOf_fun hfr hl t.frm fun h1 s1=>wpAny_bind (wpAny_entryPlaceOf fun pl hpl=>?_))
 rw [efr] at s1
 unfold EntryCells.newEntry
 unfold newFields
 refine wpAny_bind (wpAny_newObj_type ?_ (hpl.sizeOk5 _ _ _ _ _))
 have he1:h1.get? x=some oe:=(s1.2.1 x hne).trans he
 generalize hto:({ cls := .type "traceback",dict:=none,data := .fields ([head, .ref X.env.locals, .none,rawInt X.env.locals, .none] ++ (if pl.isEmpty then List.replicate 6 Value.none else pl)).toArray }:Obj)=to
 have hte:∃ ts,to.data = .fields ts∧3 < ts.size:=⟨_,by rw [← hto],by simp only [List.size_toArray,List.length_append,List.length_cons,List.length_nil];omega⟩
 have htf:to.isFreed=false:=by rw [← hto];rfl
 have he2:(h1.push to).get? x=some oe:=Heap.get?_push_of_some _ he1
 have hTx:h1.objs.size ≠ x:=Nat.ne_of_gt (Heap.lt_size he1)
 refine wpAny_setField he2 hd hsz ?_
 have hd3:=Obj.data_mapFields hd (·.setIfInBounds 1 (Value.ref h1.objs.size))
 have he3:=Heap.get?_update_self (Obj.mapFields (·.setIfInBounds 1 (Value.ref h1.objs.size))) he2 (Obj.isFreed_of_fields hd3)
 have hT3:=(Heap.get?_update_other (h1.push to) (Obj.mapFields (·.setIfInBounds 1 (Value.ref h1.objs.size))) (Ne.symm hTx)).trans (Heap.get?_push_size h1 htf)
 have kp:∀ b o,b ≠ x→h1.get? b=some o→((h1.push to).update x (Obj.mapFields (·.setIfInBounds 1 (Value.ref h1.objs.size)))).get? b=some o:=fun b o hb e =>
  (Heap.get?_update_other _ _ (Ne.symm hb)).trans (Heap.get?_push_of_some _ e)
 have hT0:X.s₀.heap.get? h1.objs.size=none:=by
  cases e:X.s₀.heap.get? h1.objs.size with
  | none=>rfl
  | some o =>
   have h2:=Nat.lt_of_lt_of_le (Heap.lt_size e) I.sz
   rw [s1.1] at h2
   exact absurd h2 (Nat.lt_irrefl _)
 have hTH:H h1.objs.size=none:=by rw [s1.1];exact I.hok.fresh (Nat.le_refl _)
 refine q _ (I.recs t (ch:=[x]) (fun b hb=>?_) (fun b o hb hc e=>?_) fun b o hb e=>?_) ⟨hx0,hxH,_,_,he3,Obj.cls_mapFields _ _,?_,hd3,by simpa using hsz, .inr ⟨h1.objs.size,to,?_⟩⟩
 ·rw [List.mem_singleton.mp hb]
  exact ⟨hx0,hxH,oe,vs,he,hd⟩
 ·exact kp b o (fun z=>hc (by rw [z];exact List.mem_singleton.mpr rfl)) ((s1.2.1 b hb).trans e)
 ·obtain ⟨sl,e1⟩:=s1.2.2 b o e
  exact ⟨sl,kp b _ (fun z=>hne (z ▸ hb)) e1⟩
 ·obtain ⟨c,d,dt,sl⟩:=oe
  cases dt <;> rfl
 ·obtain ⟨ts,d1,d2⟩:=hte
  exact ⟨ts,by simp [hsz],hTx,hT0,hTH,hT3,d1,d2⟩
theorem zkB (I:Inv X [] σ H s) (t:Top1 X) {tb:Bool} {Q:Unit→Shared→Prop} (e:ExAt X.s₀.heap s.heap H x cls dx tb)
  (q:∀ h',Inv X [] σ H { s with heap:=h' }→ExAt X.s₀.heap h' H x cls dx true→Q () { s with heap:=h' }):wpAny M X.A (noteFrame (.ref x) X.env) Q E s:=by
 obtain ⟨hx0,hxH,oe,vs,he,rfl,rfl,hd,hsz,tb'⟩:=id e
 unfold noteFrame
 simp only [t.frm]
 rcases tb' with ⟨_,h1⟩ | ⟨T,oT,ts,h1,hTx,hT0,hTH,hT,hdT,h3⟩
 ·refine wpAny_bind (wpAny_field he hd h1 ?_)
  rw [if_neg (by decide)]
  exact zlx I t hx0 hxH he hd hsz q
 ·refine wpAny_bind (wpAny_field he hd h1 ?_)
  rw [if_pos (show (Value.ref T != Value.none)=true from by simp)]
  obtain ⟨v3,hv3⟩ : ∃ v3,ts[3]? = some v3:=⟨ts[3],Array.getElem?_eq_getElem h3⟩
  refine wpAny_bind (wpAny_field hT hdT hv3 ?_)
  by_cases hb:(v3 == rawInt X.env.locals)=true
  ·rw [if_pos hb]
   exact wpAny_pure (q s.heap I ⟨hx0,hxH,oe,vs,he,rfl,rfl,hd,hsz, .inr ⟨T,oT,ts,h1,hTx,hT0,hTH,hT,hdT,h3⟩⟩)
  ·rw [if_neg hb]
   refine wpAny_bind (wpAny_setField hT hdT h3 ?_)
   have oth:∀ b,b ≠ T→(s.heap.update T (Obj.mapFields (·.setIfInBounds 3 Value.none))).get? b=s.heap.get? b:=fun b hb=>Heap.get?_update_other _ _ (Ne.symm hb)
   have hTfr:T ∉ frs X.stack:=ExAt.zoV I hT hdT
   have I1:Inv X [] σ H { s with heap:=s.heap.update T (Obj.mapFields (·.setIfInBounds 3 Value.none)) }:=I.recs t (ch:=[T]) (fun b hb=>by
    rw [List.mem_singleton.mp hb]
    exact ⟨hT0,hTH,oT,ts,hT,hdT⟩) (fun b o _ hc e=>(oth b (fun z=>hc (by rw [z];exact List.mem_singleton.mpr rfl))).trans e) fun b o hb e=>⟨o.slots,(oth b (fun z=>hTfr (z ▸ hb))).trans e⟩
   exact zlx I1 t hx0 hxH ((oth x (Ne.symm hTx)).trans he) hd hsz q
theorem zfV {A:Around} (I:Inv X [] σ H s) (t:Top1 X) {fo:Option Addr} {Q:Unit→Shared→Prop} (e:ExAt X.s₀.heap s.heap H x cls dx true)
  (q:∀ h',Inv X [] σ H { s with heap:=h' }→ExAt X.s₀.heap h' H x cls dx true→Q () { s with heap:=h' }):wpAny M A (setFlight (.ref x) fo) Q E s:=by
 obtain ⟨hx0,hxH,oe,vs,he,rfl,rfl,hd,hsz,tb'⟩:=id e
 rcases tb' with ⟨z,_⟩ | ⟨T,oT,ts,h1,hTx,hT0,hTH,hT,hdT,h3⟩
 ·cases z
 unfold setFlight
 refine wpAny_bind (wpAny_field he hd h1 ?_)
 rw [if_pos (show (Value.ref T != Value.none)=true from by simp)]
 refine wpAny_setField hT hdT h3 ?_
 generalize (fo.elim Value.none fun f=>rawInt f)=fv
 have oth:∀ b,b ≠ T→(s.heap.update T (Obj.mapFields (·.setIfInBounds 3 fv))).get? b=s.heap.get? b:=fun b hb=>Heap.get?_update_other _ _ (Ne.symm hb)
 have hTfr:T ∉ frs X.stack:=ExAt.zoV I hT hdT
 have hd3:=Obj.data_mapFields hdT (·.setIfInBounds 3 fv)
 refine q _ (I.recs t (ch:=[T]) (fun b hb=>?_) (fun b o _ hc e=>(oth b (fun z=>hc (by rw [z];exact List.mem_singleton.mpr rfl))).trans e) fun b o hb e=>⟨o.slots,(oth b (fun z=>hTfr (z ▸ hb))).trans e⟩)
  ⟨hx0,hxH,oe,vs,(oth x (Ne.symm hTx)).trans he,rfl,rfl,hd,hsz, .inr ⟨T,_,_,h1,hTx,hT0,hTH,Heap.get?_update_self _ hT (Obj.isFreed_of_fields hd3),hd3,by simpa using h3⟩⟩
 rw [List.mem_singleton.mp hb]
 exact ⟨hT0,hTH,oT,ts,hT,hdT⟩
end
abbrev WX:=St→Value→Option Addr→Hp→Prop
def XE (X:Cx) (W:WX):Value→Shared→Prop:=fun e s'=>∃ σ H' x cls dx,e = .ref x∧Inv X [] σ H' s'∧ExAt X.s₀.heap s'.heap H' x cls dx false∧W σ cls dx H'
section
variable {X:Cx}
theorem zsy (t:Top1 X) {W:WX}:PassesOwn (model X.prog X.w) X.A X.env (XE X W):=by
 rintro e s' ⟨σ,H',x,cls,dx,rfl,I,ex,w⟩
 unfold notedBy
 refine zkB I t ex fun h1 I1 e1=>?_
 unfold cameBackBy
 obtain ⟨hx0,hxH,oe,vs,he,hc,hdx,hd,hsz,tb'⟩:=id e1
 rcases tb' with ⟨z,_⟩ | ⟨T,oT,ts,h1',hTx,hT0,hTH,hT,hdT,h3⟩
 ·cases z
 refine wpAny_bind (wpAny_field he hd h1' ?_)
 rw [if_neg (show ¬ ((Value.ref T == Value.none)=true) from by simp)]
 exact zfV I1 t e1 fun h2 I2 e2=>⟨σ,H',x,cls,dx,rfl,I2,e2.any,w⟩
def CXE (P:Program) (w:World):CXT:=fun outer H s E e s'=>∃ x cls dx H',e = .ref x∧s'.os=s.os∧AllBare s'.gens∧Un (frs outer) [] H H' s.heap s'.heap∧HOk P w H' s'.heap∧ExAt s.heap s'.heap H' x cls dx true∧E cls dx H'
end
end L2
namespace L2
open PySem PySem.Spec PyProof.Rows
structure zgm (X:Cx) (W:WX):Prop where
 top:Top1 X
 ex:X.ex=[]
 to:∀ e s',XE X W e s'→X.xe e s'
 passes:PassesOwn (model X.prog X.w) X.A X.env X.xe
theorem zgm.of {X:Cx} (t:Top1 X) (hx:X.ex=[]) (W:WX):zgm (X.wish (XE X W)) W where
 top:=⟨t.stk,t.frm,t.pn⟩
 ex:=hx
 to:=fun e s' ⟨σ,H',x,cls,dx,a,I,b,c⟩=>⟨σ,H',x,cls,dx,a,I.zdJ,b,c⟩
 passes:=zsy t
theorem Inv.znP {X:Cx} {pins:List (Addr × Obj)} {σ:St} {H:Hp} {s:Shared} (I:Inv X pins σ H s):Inv X [] σ H s:=I.zkC fun p hp=>absurd hp (by simp)
theorem Inv.first {X:Cx} {pins:List (Addr × Obj)} {σ:St} {H:Hp} {s:Shared} (I:Inv X pins σ H s) (hx:X.ex=[]) {b:Addr} (h:s.heap.get? b=none):X.s₀.heap.get? b=none:=by
 cases e:X.s₀.heap.get? b with
 | none=>rfl
 | some o =>
  obtain ⟨o',e'⟩:=I.base.there b o e (by rw [hx];simp)
  rw [h] at e';cases e'
theorem ExAt.first {X:Cx} {pins:List (Addr × Obj)} {σ:St} {H H':Hp} {s:Shared} {h':Heap} {x:Addr} {cls:Value} {dx:Option Addr} {tb:Bool} (I:Inv X pins σ H s) (hx:X.ex=[]) (e:ExAt s.heap h' H' x cls dx tb) :
  ExAt X.s₀.heap h' H' x cls dx tb:=by
 obtain ⟨a,b,oe,vs,c1,c2,c3,c4,c5,c6⟩:=e
 refine ⟨I.first hx a,b,oe,vs,c1,c2,c3,c4,c5,c6.imp id fun ⟨T,oT,ts,d1,d2,d3,d4,d5,d6,d7⟩=>⟨T,oT,ts,d1,d2,I.first hx d3,d4,d5,d6,d7⟩⟩
theorem zdn.at {P:Program} {w:World} {H:Hp} {h:Heap} {a:Addr} {o:HO} (x:zdn P w H h a o):∃ ob,h.get? a=some ob:=by
 cases o with
 | lst xs=>obtain ⟨_,_,_,_,e⟩:=x;exact ⟨_,e⟩
 | tup xs=>obtain ⟨_,_,_,_,e,_⟩:=x;exact ⟨_,e⟩
 | dK kvs=>obtain ⟨_,_,_,_,o,_,_,e,_⟩:=x;exact ⟨_,e⟩
 | dT kvs=>obtain ⟨_,_,_,_,o,_,_,e,_⟩:=x;exact ⟨_,e⟩
 | set S n=>obtain ⟨o,_,_,_,e,_⟩:=x;exact ⟨_,e⟩
 | ins C dx fs=>obtain ⟨_,_,_,e,_⟩:=x;exact ⟨_,e⟩
 | own y=>exact x
 | xd fs=>obtain ⟨_,⟨_,_,_,e,_⟩,_⟩:=x;exact ⟨_,e⟩
 | rng lo hi=>obtain ⟨_,_,_,e⟩:=x;exact ⟨_,e⟩
 | frz ob u=>obtain ⟨e,_⟩:=x;exact ⟨_,e⟩
 | tbl ps=>exact ⟨_,show h.get? a=some _ from x⟩
 | met f y=>exact ⟨_,show h.get? a=some _ from x⟩
 | ext φ=>obtain ⟨_,e,_⟩:=x;exact e
theorem HOk.zrw {P:Program} {w:World} {H:Hp} {h:Heap} {a:Addr} (x:HOk P w H h) (e:h.get? a=none):H a=none:=by
 cases ea:H a with
 | none=>rfl
 | some o =>
  obtain ⟨ob,e'⟩:=(x a o ea).at
  rw [e] at e';cases e'
section
variable {P:Program} {w:World} {K:PySem.W.Frag} {mg:Str→Option Value} {base:Heap}
abbrev cxX (P:Program) (w:World) (K:PySem.W.Frag) (mg:Str→Option Value) (base:Heap) (N:List Str) (qual:Str) (scope:Scope) (f:Addr) (cd:Value) (A:Around) (outer:List Env) (s:Shared) (H:Hp) (E:XK):Cx :=
 (cxOf (CXE P w) P w K mg base N qual scope f cd A outer s H E).wish (XE (cxOf (CXE P w) P w K mg base N qual scope f cd A outer s H E) fun _=>E)
theorem zg0 {CX:CXT} {N:List Str} {qual:Str} {scope:Scope} {f:Addr} {cd:Value} {A:Around} {outer:List Env} {s:Shared} {H:Hp} {E:XK}:Top1 (cxOf CX P w K mg base N qual scope f cd A outer s H E):=⟨rfl,rfl,rfl⟩
theorem zai {N:List Str} {qual:Str} {scope:Scope} {f:Addr} {cd:Value} {A:Around} {outer:List Env} {s:Shared} {H:Hp} {E:XK}:zgm (cxX P w K mg base N qual scope f cd A outer s H E) (fun _=>E):=zgm.of zg0 rfl _
theorem zlk {N:List Str} {qual:Str} {scope:Scope} {f:Addr} {cd:Value} {A:Around} {outer:List Env} {s:Shared} {H:Hp} {E:XK} {st:List Stmt} {t:TS} (h:PSs (cxX P w K mg base N qual scope f cd A outer s H E) st t) :
  PSs (cxOf (CXE P w) P w K mg base N qual scope f cd A outer s H E) st t:=by
 intro pins s1 σ H1 D I hw
 refine wpAny_mono (h pins s1 σ H1 D (I.wish _) hw) (fun _ _ q=>q.zdJ) fun e s' hx=>?_
 obtain ⟨σ',H',x,cls,dx,rfl,I',ex,q⟩:=hx
 show wpAny _ _ (leaving _ _) _ _ _
 unfold leaving
 refine wpAny_bind (zkB (E:=fun e' s''=>CXE P w outer H s E e' s'') I' zg0 ex fun h1 I1 e1=>?_)
 refine zfV I1 zg0 e1 fun h2 I2 e2=>?_
 exact ⟨x,cls,dx,H',rfl,I2.os,I2.bare,I2.base,I2.hok,e2,q⟩
structure DefX (P:Program) (w:World) (K:PySem.W.Frag) (mg:Str→Option Value) (base:Heap) (x:Str) (k:Nat) (ps:List Str) (sp:Sp):Prop where
 ex:∃ f fd,FnOk P w K mg base (CXE P w) k f fd ps sp∧mg x=some (.ref f)∧PySem.W.keepIn K (.ref f)=true∧Binds K fd ps []
theorem DefX.of {x:Str} {st:Stmt} {N ps:List Str} {k:Nat} {sp:Sp} (h:HasFn K mg x st) (S:zaq N ps (zab st))
  (bind:∀ (kV doc pm:Value) (an:Option Addr) (cdv ct:Value) (us:List Value),us.length=ps.length→bindArgs (PySem.W.fnOf x x (zan st) (zaj st) (zab st) .none kV doc pm an cdv ct) ⟨us,[]⟩ = pure (ps.zip us))
  (len:∀ vs H Q E,sp vs H Q E→vs.length=ps.length)
  (hbody:∀ (f:Addr) (cdv:Value) (A:Around) (outer:List Env) (s:Shared) (H:Hp) (vs:List V) (Q:VK) (E:XK),Room k (A.deeper (envOfC x (zab st) s.heap.objs.size f cdv))→sp vs H Q E →
   ∃ t,PSs (cxX P w K mg base N x (zab st) f cdv A outer s H E) (zaj st) t∧t { nx:=fun _ H'=>Q .non H',rt:=Q } (start N vs) H):DefX P w K mg base x (k + 1) ps sp:=by
 obtain ⟨f,fd,hm,F⟩:=h.ex
 refine ⟨f,fd,?_,hm,F.kp,F.binds bind⟩
 obtain ⟨oc,od,kV,doc,pm,an,cdv,ct,osl,rfl,lk,hcd⟩:=F.ex
 refine zoG lk hcd S len fun A outer s H vs Q E hr hsp=>?_
 obtain ⟨t,h,q⟩:=hbody f cdv A outer s H vs Q E hr hsp
 exact ⟨t,zlk h,q⟩
end
section
variable {X:Cx} {W:WX} {x:Str} {p pos np cpos:Pos} {e:Expr} {es:List Expr} {t:TA}
def zrX (sp:Sp) (W:WX) (t:TA):TE:=fun σ H Q=>t σ H fun vs H1=>sp vs H1 Q fun cls dx H'=>W σ cls dx H'
theorem zrv {k:Nat} {ps:List Str} {sp:Sp} (T:zgm X W) (D:DefX X.prog X.w X.K X.mg X.base x k ps sp) (hr:Room k X.A) (hg:Gl X x) (ha:PA X (e :: es) t)
  (hdb:(x == ("__debug__" : Str))=false:=by decide) (he:starEach (e :: es) X.env=(false,eval e X.env) :: starEach es X.env:=by rfl) (hpl:(backTo pos (starEach es X.env)).any (·.1)=false:=by rfl) :
  PE X (.Call (.Name x p) (e :: es) [] pos) (zrX sp W t):=by
 obtain ⟨f,fd,F,hm,hk,hb⟩:=D.ex
 intro pins s σ H Q I h
 refine wpAny_Call_Name_kw (zfu I hg hm ?_ hdb)
 refine PySem.W.callWith_K (h₀:=X.base) I.ok.mod.kin hk (thn (ha pos pins s σ H _ I h) fun us s1 ⟨vs,H1,I1,r,q⟩=>⟨I1.kIn,?_⟩) he hpl
 have hl:us.length=ps.length:=by rw [← r.length];exact F.len _ _ _ _ q
 have hb':=hb s1 us I1.kIn (by rw [List.append_nil];exact hl)
 rw [List.append_nil] at hb'
 refine wpAny_call (codeAny_mono (F.run X.A X.stack s1 H1 ⟨us,[]⟩ us vs Q _ hr I1.env0 hb' r q) fun r s' hq=>?_)
 cases r with
 | error ev =>
  obtain ⟨a,cls,dx,H',rfl,os,bare,un,hok,ex,q'⟩:=hq
  have I2:=(I1.zoR os un hok bare (fun b z=>absurd z (by simp))).znP
  exact T.to _ _ ⟨σ,H',a,cls,dx,rfl,I2,(ex.first I1 T.ex).any,q'⟩
 | ok fl =>
  cases fl with
  | ret u=>exact I1.after hq
  | next=>exact False.elim hq
  | brk=>exact False.elim hq
  | cont=>exact False.elim hq
abbrev bmVE:List Value:=[.type "ValueError", .type "Exception", .type "BaseException", .type "object"]
structure OwnE (K:PySem.W.Frag) (C:Addr):Prop where
 inK:PySem.W.excIn K C bmVE "ValueError.__new__" = true
theorem OwnE.obj {K:PySem.W.Frag} {C:Addr} (O:OwnE K C) {h:Heap} (X:K.In h):∃ bm N nm q bs hdct sn sub ab col dd k0 k1 k2 k3 k5 mN,h.get? C=some (excClassObj nm q C N bs bm hdct sn sub ab col dd k0 k1 k2 k3 k5 "ValueError.__new__")∧h.Ns N mN∧mN "__init__" = none∧OwnTail h bmVE bm:=by
 have q:=O.inK
 unfold PySem.W.excIn at q
 split at q
 ·rename_i dd cd sl ho
  split at q
  ·rename_i C' bm k0 k1 k2 k3 n k5 hm hs
   simp only [Bool.and_eq_true,beq_iff_eq,Bool.not_eq_true'] at q
   obtain ⟨⟨⟨⟨⟨rfl,rfl⟩,hdel⟩,ht⟩,hok⟩,hni⟩:=q
   obtain ⟨nm,bs,mro,ns,qn,hd,sn,sub,ab,col,del⟩:=cd
   dsimp only at hm hdel hok hni
   subst hm hdel
   have hsl:sl = #[k0,k1,k2,k3,some (.builtin "ValueError.__new__"),k5]:=by
    obtain ⟨l⟩:=sl
    simp only at hs
    rw [hs]
   subst hsl
   exact ⟨bm,ns,nm,qn,bs,hd,sn,sub,ab,col,dd,k0,k1,k2,k3,k5,_,X _ _ ho, .of_isNs (PySem.W.isNs_of_in X hok),PySem.W.nsMap_none_of_in X hok hni,PySem.W.tail_of_in X ht⟩
  ·cases q
 ·cases q
def zs3 (W:WX) (C:Addr) (t:TA):TS:=fun _ σ H=>t σ H fun vs H1=>vs.length ≤ sizeLine∧W σ (.ref C) none H1
theorem zpo {C:Addr} (T:zgm X W) (hc:X.calm=true) (O:OwnE X.K C) (hg:Gl X x) (hm:X.mg x=some (.ref C)) (ha:PA X (e :: es) t)
  (hdb:(x == ("__debug__" : Str))=false:=by decide) (he:starEach (e :: es) X.env=(false,eval e X.env) :: starEach es X.env:=by rfl) (hpl:(backTo cpos (starEach (e :: es) X.env)).any (·.1)=false:=by rfl) :
  PS X (.Raise (some (.Call (.Name x np) (e :: es) [] cpos)) none pos) (zs3 W C t):=by
 intro pins s σ H D I h
 obtain ⟨bm,N,nm,q,bs,hdct,sn,sub,ab,col,dd,k0,k1,k2,k3,k5,mN,hC,hN,hni,hT⟩:=O.obj I.ok.mod.kin
 have hbase:bm.contains (.type "BaseException")=true:=hT.hasType (by decide)
 refine wpAny_Raise_call_subT (nm:=nm) (q:=q) (N:=N) (bs:=bs) (hdct:=hdct) (sn:=sn) (sub:=sub) (ab:=ab) (col:=col) (dd:=dd) (k0:=k0) (k1:=k1) (k2:=k2) (k3:=k3) (k5:=k5) PySem.F.excBase_ValueError hbase (I.ok.hd hc) hpl hni (zfu I hg hm ⟨rfl,?_⟩ hdb)
 rw [he]
 refine Calls.evalArgs_plain ?_
 have ha':=ha cpos pins s σ H _ I h
 rw [he] at ha'
 refine thn ha' fun us s1 ⟨vs,H1,I1,r,hz,q1⟩=>⟨rfl,by rw [← r.length];exact hz,I1.bk _ _ hC,hN.keeps I1.bk,hT.keeps I1.bk,fun h' a M=>?_⟩
 obtain ⟨tt,ht,htn,_⟩:=M.there
 have hH:H1 a=none:=I1.hok.zrw M.new
 refine T.to _ _ ⟨σ,H1,a, .ref C,none,rfl,(I1.kept (t':=s1.toks) M.keeps).znP,⟨I1.first T.ex M.new,hH,_,_,ht,rfl,rfl,rfl,by simp, .inl ⟨rfl,rfl⟩⟩,q1⟩
end
end L2
namespace L2
open PySem PySem.Spec PyProof.Rows
structure XC (K:PySem.W.Frag) (C:Addr):Prop where
 ob:∃ nm q N bs bm hdct sn sub ab col dd k0 k1 k2 k3 k5,K.lookup C=some (excClassObj nm q C N bs bm hdct sn sub ab col dd k0 k1 k2 k3 k5 "ValueError.__new__")
 ga:PySem.W.findIn K (.ref C) "__getattribute__" = some (some (.builtin "BaseException.__getattribute__"))
 gt:PySem.W.findIn K (.ref C) "__getattr__" = some none
 cl:PySem.W.findIn K (.ref C) "__class__" = some (some (.builtin "object.__class__"))
 be:PySem.W.subIn K (.ref C) (.type "BaseException")=some true
 oj:PySem.W.subIn K (.ref C) (.type "object")=some true
section
variable {prog:Program} {w:World} {A:Around} {E:Value→Shared→Prop} {h:Heap} {g:Array GenState} {d:Drawn} {t:Nat} {os:OsState} {a:Addr} {o:Obj} {K:PySem.W.Frag} {C:Addr}
end
end L2
namespace L2
open PySem PySem.Spec PyProof.Rows
section
variable {K:PySem.W.Frag} {C D x:Addr} {oe:Obj} {b:Bool}
theorem XC.get (c:XC K C):∃ cd,PySem.W.clsIn K C=some cd∧cd.mro.isEmpty=false∧cd.mro.contains (.ref C)=true∧PySem.W.typeIn K (.ref C)=some (.type "type"):=by
 obtain ⟨nm,q,N,bs,bm,hdct,sn,sub,ab,col,dd,k0,k1,k2,k3,k5,e⟩:=c.ob
 refine ⟨{ name:=nm,bases:=bs,mro := .ref C :: bm,ns:=N,qualname:=q,hasDict:=hdct,slotNames:=sn,subclasses:=sub,abstract:=ab,collection:=col,hasDel:=false },?_,rfl,?_,?_⟩
 ·unfold PySem.W.clsIn
  rw [e]
 ·simp
 ·show (K.lookup C).map (·.cls)=_
  rw [e]
  rfl
theorem zry (cD:XC K D) (cC:XC K C) (s:PySem.W.subIn K (.ref D) (.ref C)=some b):PySem.W.kitOne K (.ref D) (.ref C)=some b:=by
 unfold PySem.W.kitOne
 split
 ·rename_i q
  have e:D=C:=Value.ref.inj (beq_iff_eq.mp q)
  subst e
  obtain ⟨cd,h1,h2,h3,_⟩:=cD.get
  change PySem.W.mroIn K D (.ref D)=some b at s
  unfold PySem.W.mroIn at s
  rw [h1] at s
  simp only [Option.bind_some,h2,h3] at s
  simpa using s
 ·obtain ⟨cd,h1,_,_,h4⟩:=cC.get
  unfold PySem.W.kitCls
  simp only [h1,h4]
  exact s
end
def Cx.zdf (X:Cx) (x:Addr) (oe:Obj):Cx:={ X with A:=X.A.mark (some (.ref x)),calm:=false,pn:=X.pn ++ [(x,oe)],xe:=fun _ _=>False }
theorem Cx.Ok.zdf {X:Cx} (ok:X.Ok) (x:Addr) (oe:Obj):(X.zdf x oe).Ok :=
 ⟨ok.mod,ok.kind,ok.glob,ok.blt,ok.above,ok.inj,ok.has,ok.cab,fun h=>Bool.noConfusion h,ok.frames,ok.stk,ok.exf,ok.bs,ok.bsz,ok.noex,ok.exfs,ok.funs,ok.frf⟩
section
variable {X:Cx} {σ:St} {H:Hp} {s:Shared} {x:Addr} {oe:Obj}
theorem Inv.zdf (I:Inv X [] σ H s) (p:s.heap.get? x=some oe∧H x=none∧x ≠ X.env.locals∧x ∉ X.fs∧∀ v,oe.data ≠ .cell v):Inv (X.zdf x oe) [] σ H s :=
 ⟨I.ok.zdf x oe,I.os,I.bare,I.base,I.loc,I.cell,I.free,I.freeC,fun q hq=>by
  have hq:q ∈ (X.pn ++ [(x,oe)]) ++ []:=hq
  rw [List.append_nil] at hq
  rcases List.mem_append.mp hq with z | z
  ·exact I.pin q (List.mem_append_left _ z)
  ·rw [List.mem_singleton.mp z];exact p,I.hok,I.len⟩
theorem Inv.uncaught (ok:X.Ok) (I:Inv (X.zdf x oe) [] σ H s):Inv X [] σ H s :=
 ⟨ok,I.os,I.bare,I.base,I.loc,I.cell,I.free,I.freeC,fun q hq=>I.pin q (by
  rw [List.append_nil] at hq ⊢
  exact List.mem_append_left _ hq),I.hok,I.len⟩
theorem ExAt.pin {cls:Value} {dx:Option Addr} {tb:Bool} (I:Inv X [] σ H s) (t:Top1 X) (e:ExAt X.s₀.heap s.heap H x cls dx tb):∃ oe vs,oe.cls=cls∧oe.dict=dx∧oe.data = .fields vs∧s.heap.get? x=some oe∧H x=none∧x ≠ X.env.locals∧x ∉ X.fs∧∀ v,oe.data ≠ .cell v:=by
 obtain ⟨_,hxH,oe,vs,he,hc,hdx,hd,_⟩:=e
 have nf:=ExAt.zoV I he hd
 exact ⟨oe,vs,hc,hdx,hd,he,hxH,fun z=>nf (t.mem.mpr (.inl z)),fun z=>nf (t.mem.mpr (.inr z)),fun v z=>by rw [hd] at z;cases z⟩
end
section
variable {M:Model} {A:Around} {E:Value→Shared→Prop} {h:Heap} {g:Array GenState} {d:Drawn} {t:Nat} {os:OsState} {e:Addr} {oe:Obj} {K:PySem.W.Frag} {C D:Addr} {b:Bool}
theorem zs1 {Q:Bool→Shared→Prop} (cC:XC K C) (X:K.In h) (he:h.get? e=some oe) (hc:oe.cls = .ref D) (sb:PySem.W.subIn K (.ref D) (.ref C)=some b) (hq:Q b ⟨h,g,d,t,os⟩) :
  wpAny M A (excMatches (.ref e) (.ref C)) Q E ⟨h,g,d,t,os⟩:=by
 obtain ⟨nm,q,N,bs,bm,hdct,sn,sub,ab,col,dd,k0,k1,k2,k3,k5,hC0⟩:=cC.ob
 have hC:=X _ _ hC0
 have L:=PySem.W.looks_subIn (M:=M) X sb
 have LB:=PySem.W.looks_subIn (M:=M) X cC.be
 have f:=tc_notTuple
 unfold excMatches
 repeat (first | (with_reducible refine wpAny_loadPart_at he ?_;rw [hc]) | with_reducible refine wpAny_loadPart_at hC ?_ | with_reducible refine LB.at ?_ | with_reducible refine L.at ?_ | wp_step)
 cases b <;> (wp_walk;exact hq)
end
theorem ziS {X:Cx} {M:Model} {A:Around} {E:Value→Shared→Prop} {σ:St} {H:Hp} {s:Shared} {i:Nat} {n:Str} {pos:Pos} {Q:Unit→Shared→Prop} (I:Inv X [] σ H s) (hN:X.N.Nodup) (hi:X.N[i]? = some n) (hl:X.env.scope.names.lookup n=some .local)
  (h:∀ s',Inv X [] (σ.set i none) H s'→Q () s'):wpAny M A (do bindName X.env n .none;unbindBehindTheSuite X.env n pos) Q E s:=by
 refine wpAny_bind (wpAny_bindName (zg2 (v := .non) I hN hi (.inl hl) rfl (fun s1 I1=>?_) (.inr hl)))
 unfold unbindBehindTheSuite
 refine wpAny_onRaise ?_
 have hcls:(X.env.scope.kind == .class || (X.env.scope.kind == .module && X.env.locals != X.env.globals))=false:=by rw [I.ok.kind];rfl
 obtain ⟨m,hn,hlo⟩:=id I1.loc
 have hiσ:i < σ.length:=by rw [I.len];exact (List.getElem?_eq_some_iff.mp hi).1
 have hv:m n=some .none:=by
  obtain ⟨u,ru,l⟩:=hlo i n .non hi (by rw [List.getElem?_set_self hiσ]) (.inl hl)
  obtain rfl:u=Value.none:=ru
  rcases l with ⟨_,l⟩ | ⟨k,_⟩
  ·exact l
  ·have hl':X.env.kindOf n=some .local:=hl
   rcases k with k | k <;> (rw [hl'] at k;cases k)
 refine wpAny_unbindName_local hl hn hv hcls fun h' u hn' hs=>?_
 have cne:=I1.cne
 obtain ⟨oL,_,_,hoL,_⟩:=id hn
 refine h _ ⟨I1.ok,I1.os,I1.bare,⟨fun b o e nn hb hx=>?_,fun b o e nn hb hx=>?_,I1.base.free,fun b o e hx=>?_,I1.base.tups,I1.base.frzs,I1.base.tbls⟩,⟨_,hn',fun j y v' e1 e2 e3=>?_⟩,fun y c e=>?_,I1.free,I1.freeC,fun p hp=>?_,fun b ob e=>?_,by simpa using I.len⟩
 ·exact (hs.2 b (Nat.ne_of_lt (Nat.lt_of_lt_of_le (Heap.lt_size e) I1.ok.above))).trans (I1.base.keep b o e nn hb hx)
 ·obtain ⟨sl,e1⟩:=I1.base.slot b o e nn hb hx
  exact ⟨sl,(hs.2 b (Nat.ne_of_lt (Nat.lt_of_lt_of_le (Heap.lt_size e) I1.ok.above))).trans e1⟩
 ·obtain ⟨o',e1⟩:=I1.base.there b o e hx
  exact ⟨o',(hs.2 b (Nat.ne_of_lt (Nat.lt_of_lt_of_le (Heap.lt_size e) I1.ok.above))).trans e1⟩
 ·have hj:j ≠ i:=fun z=>by
   subst z
   rw [List.getElem?_set_self hiσ] at e2
   cases e2
  rw [List.getElem?_set_ne (Ne.symm hj)] at e2
  obtain ⟨u',r',q⟩:=hlo j y v' e1 (by rw [List.getElem?_set_ne (Ne.symm hj)];exact e2) e3
  refine ⟨u',r',?_⟩
  rcases q with ⟨k,e⟩ | ⟨k,c,e,z⟩
  ·refine .inl ⟨k,?_⟩
   have:y ≠ n:=fun e=>hj (zi0 hN e1 (e ▸ hi))
   simp [this,e]
  ·exact .inr ⟨k,c,e,z.sameBut hs (cne y c e)⟩
 ·obtain ⟨w',z⟩:=I1.cell y c e
  exact ⟨w',z.sameBut hs (cne y c e)⟩
 ·obtain ⟨e,nn,ne,nf,d⟩:=I1.pin p hp
  exact ⟨(hs.2 p.1 ne).trans e,nn,ne,nf,d⟩
 ·refine (I1.hok b ob e).stay (fun c w' hc q=>(hs.2 c ?_).trans q) (fun _ q=>q) fun _ _ q=>q
  rintro rfl
  have hfree:=I1.free
  rcases hc with rfl | hc
  ·rw [hfree] at e;cases e
  ·rw [hfree] at hc;cases hc
def PS0 (X:Cx) (st:Stmt) (t:TS):Prop:=∀ (s:Shared) (σ:St) (H:Hp) (D:Ends),Inv X [] σ H s→t D σ H→wpAny (model X.prog X.w) X.A (exec st X.env) (SP X [] D) X.xe s
def PSs0 (X:Cx) (st:List Stmt) (t:TS):Prop:=∀ (s:Shared) (σ:St) (H:Hp) (D:Ends),Inv X [] σ H s→t D σ H→wpAny (model X.prog X.w) X.A (execs st X.env) (SP X [] D) X.xe s
theorem PS.ps0 {X:Cx} {st:Stmt} {t:TS} (h:PS X st t):PS0 X st t:=h []
theorem PSs.ps0 {X:Cx} {st:List Stmt} {t:TS} (h:PSs X st t):PSs0 X st t:=h []
theorem zmE {X:Cx} {st:Stmt} {rest:List Stmt} {t u:TS} (h1:PS0 X st t) (h2:PSs0 X rest u):PSs0 X (st :: rest) (tSeq t u):=by
 intro s σ H D I h
 refine wpAny_execs_cons (thn (h1 s σ H { D with nx:=u D } I h) fun f s1 q=>?_)
 cases f with
 | next =>
  obtain ⟨σ',H',I',q⟩:=q
  exact h2 s1 σ' H' D I' q
 | brk=>exact q
 | cont=>exact q
 | ret u=>exact q
end L2
namespace L2
open PySem PySem.Spec PyProof.Rows
abbrev TH:=Addr→Value→Option Addr→TS
def PH (X:Cx) (hs:List ExceptHandler) (th:TH):Prop:=∀ (s:Shared) (σ:St) (H:Hp) (D:Ends) (x:Addr) (cls:Value) (dx:Option Addr),Inv X [] σ H s→ExAt X.s₀.heap s.heap H x cls dx true→th x cls dx D σ H →
 wpAny (model X.prog X.w) X.A (handleBy (.ref x) X.env hs) (SP X [] D) X.xe s
def tNoH:TH:=fun _ _ _ _ _ _=>False
theorem zse {X:Cx}:PH X [] tNoH:=fun _ _ _ _ _ _ _ _ _ h=>h.elim
def Ends.drop (D:Ends) (i:Nat):Ends:=⟨fun σ H=>D.nx (σ.set i none) H,D.rt,fun σ H=>D.bk (σ.set i none) H,fun σ H=>D.ct (σ.set i none) H⟩
def tH (K:PySem.W.Frag) (C:Addr) (i:Nat) (ts th:TH):TH:=fun x cls dx D σ H=>∃ E b,cls = .ref E∧PySem.W.subIn K (.ref E) (.ref C)=some b ∧
 if b=true then ts x cls dx (D.drop i) (σ.set i (some (.ref x))) H else th x cls dx D σ H
section
variable {X:Cx} {C:Addr} {i:Nat} {n y:Str} {np pos:Pos} {b₀:Stmt} {suite:List Stmt} {rest:List ExceptHandler} {ts th:TH}
def tTry (tb:WX→TS) (th:TH):TS:=fun D σ H=>tb (fun σ' cls dx H'=>∀ x,H' x=none→th x cls dx D σ' H') D σ H
theorem zsA {h0:ExceptHandler} {hs:List ExceptHandler} {body:List Stmt} {tb:WX→TS} (t:Top1 X) (hx:X.ex=[]) (hb:∀ W,PSs0 (X.wish (XE X W)) body (tb W)) (hh:PH X (h0 :: hs) th):PS0 X (.Try body (h0 :: hs) [] [] pos) (tTry tb th):=by
 intro s σ H D I h
 refine wpAny_Try_except (wpAny_mono (hb _ s σ H D (I.wish _) h) (fun f s1 q=>?_) fun e s1 q=>?_)
 ·have q:=q.zdJ
  cases f with
  | next =>
   obtain ⟨σ',H',I',q⟩:=q
   exact wpAny_execs_nil ⟨σ',H',I',q⟩
  | brk=>exact q
  | cont=>exact q
  | ret u=>exact q
 ·obtain ⟨σ',H',x,cls,dx,rfl,I',ex,q⟩:=q
  refine zkB I' t ex fun h1 I1 e1=>zfV I1 t e1 fun h2 I2 e2=>?_
  exact hh _ σ' H' D x cls dx I2 e2 (q x e2.2.1)
end
section
variable {P:Program} {w:World} {K:PySem.W.Frag} {mg:Str→Option Value} {base:Heap}
theorem zrI {CX:CXT} {k:Nat} {f:Addr} {name qual:Str} {params:Arguments} {body:List Stmt} {scope:Scope} {dV kV doc pm cdv ct oc:Value} {an od:Option Addr}
  {osl:Array (Option Value)} {N ps:List Str} {sp:Sp} (lk:K.lookup f=some ⟨oc,od, .func (PySem.W.fnOf name qual params body scope dV kV doc pm an cdv ct),osl⟩) (hcd:PySem.W.codeIn K cdv qual=true) (S:zaq N ps scope)
  (len:∀ vs H Q E,sp vs H Q E→vs.length=ps.length)
  (hbody:∀ (A:Around) (outer:List Env) (s:Shared) (H:Hp) (vs:List V) (Q:VK) (E:XK),Room k (A.deeper (envOfC qual scope s.heap.objs.size f cdv))→sp vs H Q E →
   ∃ t,PSs0 (cxOf CX P w K mg base N qual scope f cdv A outer s H E) body t∧t { nx:=fun _ H'=>Q .non H',rt:=Q } (start N vs) H) :
  FnOk P w K mg base CX (k + 1) f (PySem.W.fnOf name qual params body scope dV kV doc pm an cdv ct) ps sp:=by
 refine ⟨len,fun A outer s H args us vs Q E hr e0 hb r hsp=>?_⟩
 have hl:=len _ _ _ _ hsp
 have KX:K.In s.heap:=e0.mod.kin.keeps fun b o e=>(e0.bs b o e).1
 have lim:s.heap.NoLimit:=e0.mod.nolimit.keeps fun b o e=>(e0.bs b o e).1
 have hkind:∀ y ∈ ps.zip us,scope.names.lookup y.1=some .local∨(scope.names.lookup y.1=some .cell∧((cellsFrom (s.heap.objs.size + 1) scope.names []).lookup y.1).isSome=true):=fun ⟨n,v⟩ hy=>by
  rcases S.par n (List.of_mem_zip hy).1 with q | q
  ·exact .inl q
  ·exact .inr ⟨q,PySem.W.cellsFrom_some _ _ _ (.inl q)⟩
 refine codeAny_call_function hr.depth (KX _ _ lk) rfl S.co S.gen rfl (PySem.W.codeRec_of KX hcd) (hb _ _ _ _ ?_)
 refine wpAny_newFunctionEnv_cells S.kind hkind fun env he s1 x=>?_
 subst he
 refine ⟨lim.keeps x.toInCall.keep,codeAny_func ?_⟩
 obtain ⟨t,ht,hq⟩:=hbody A outer s H vs Q E (hr.deeper _) hsp
 have I:Inv (cxOf CX P w K mg base N qual scope f cdv A outer s H E) [] (start N vs) H s1:=ze2 S hr.hd e0 hl r x
 refine wpAny_mono (ht s1 (start N vs) H _ I hq) (fun fl s' hs=>?_) fun e s' hs=>hs
 have fin:∀ {σ':St} {H':Hp} {v:V} {u:Value},Inv (cxOf CX P w K mg base N qual scope f cdv A outer s H E) [] σ' H' s'→RelV v u→Q v H'→CE outer P w H s Q u s' :=
  fun {σ' H' v u} J rv q=>⟨v,H',J.os,J.bare,J.base,J.hok,rv,q⟩
 cases fl with
 | ret u =>
  obtain ⟨v,σ',H',J,rv,q⟩:=hs
  exact fin J rv q
 | next =>
  obtain ⟨σ',H',J,q⟩:=hs
  exact fin (v:=V.non) (u:=Value.none) J rfl q
 | brk =>
  obtain ⟨_,_,_,q⟩:=hs
  exact False.elim q
 | cont =>
  obtain ⟨_,_,_,q⟩:=hs
  exact False.elim q
theorem PSs0.nox {X:Cx} {st:List Stmt} {t:TS} (h:PSs0 X.nox st t):PSs0 X st t:=fun s σ H D I hw =>
 wpAny_mono (h s σ H D (I.wish _) hw) (fun _ _ q=>q.zdJ) fun _ _ z=>False.elim z
theorem Def.of0 {x:Str} {st:Stmt} {N ps:List Str} {k:Nat} {sp:Sp} (h:HasFn K mg x st) (S:zaq N ps (zab st))
  (bind:∀ (kV doc pm:Value) (an:Option Addr) (cdv ct:Value) (us:List Value),us.length=ps.length→bindArgs (PySem.W.fnOf x x (zan st) (zaj st) (zab st) .none kV doc pm an cdv ct) ⟨us,[]⟩ = pure (ps.zip us))
  (len:∀ vs H Q E,sp vs H Q E→vs.length=ps.length)
  (hbody:∀ (f:Addr) (cdv:Value) (A:Around) (outer:List Env) (s:Shared) (H:Hp) (vs:List V) (Q:VK) (E:XK),Room k (A.deeper (envOfC x (zab st) s.heap.objs.size f cdv))→sp vs H Q E →
   ∃ t,PSs0 (cxOf CX0 P w K mg base N x (zab st) f cdv A outer s H E).nox (zaj st) t∧t { nx:=fun _ H'=>Q .non H',rt:=Q } (start N vs) H):Def P w K mg base x (k + 1) ps sp:=by
 obtain ⟨f,fd,hm,F⟩:=h.ex
 refine ⟨f,fd,?_,hm,F.kp,F.binds bind⟩
 obtain ⟨oc,od,kV,doc,pm,an,cdv,ct,osl,rfl,lk,hcd⟩:=F.ex
 refine zrI lk hcd S len fun A outer s H vs Q E hr hsp=>?_
 obtain ⟨t,h,q⟩:=hbody f cdv A outer s H vs Q E hr hsp
 exact ⟨t,h.nox,q⟩
end
end L2
namespace L2
open PySem PySem.Spec PyProof.Rows
def zrZ (scope sc:Scope) (N:List Str) (js:List Nat):Bool :=
 scope.kind == .function && (scope.names.all fun y=>y.2 != .cell && (y.2 != .local || scope.names.lookup y.1 == some .local) && (y.2 != .free || (sc.names.lookup y.1 == some .cell || sc.names.lookup y.1 == some .free))) &&
 js.all fun j=>match N[j]? with
  | some x=>scope.names.lookup x == some .free
  | none=>false
theorem LcOk.of {X:Cx} {scope:Scope} {ls:List Str} {js:List Nat} (sc:Scope) (N:List Str) (hsc:X.env.scope=sc) (hN:X.N=N) (ok:zrZ scope sc N js=true):LcOk X scope ls js:=by
 unfold zrZ at ok
 rw [Bool.and_eq_true,Bool.and_eq_true] at ok
 obtain ⟨⟨h1,h2⟩,h3⟩:=ok
 rw [List.all_eq_true] at h2 h3
 refine ⟨by simpa using h1,fun y hy=>?_,fun y hy hl=>?_,fun y hy hf=>?_,fun j hj=>?_⟩
 ·have q:=h2 y hy
  rw [Bool.and_eq_true,Bool.and_eq_true] at q
  simpa using q.1.1
 ·have q:=h2 y hy
  rw [Bool.and_eq_true,Bool.and_eq_true] at q
  simpa [hl] using q.1.2
 ·have q:=h2 y hy
  rw [Bool.and_eq_true,Bool.and_eq_true] at q
  have q2:=q.2
  rw [hf] at q2
  unfold Env.kindOf
  rw [hsc]
  simpa using q2
 ·have q:=h3 j hj
  rw [hN]
  cases e:N[j]? with
  | none=>rw [e] at q;cases q
  | some x=>rw [e] at q;exact ⟨x,rfl,by simpa using q⟩
theorem Kept.same {l:Addr} {H H':Hp} (e:Kept l H H') (hl:H l=none):Same H H':=fun b o h=>e b o (zaK h hl) h
end L2
namespace L2
open PySem PySem.Spec PyProof.Rows
end L2
namespace L2
open PySem PySem.Spec PyProof.Rows
section
variable {X:Cx}
theorem zjG (hc:X.calm=true):zfo X (.builtin "sorted") (fun xs H Q=>∃ d kvs ks,xs=[.ref d]∧H d=some (.dK kvs)∧kvs.map (·.1)=ks.map Sum.inl∧ks.length < 64 ∧
  ∀ (ms:List Int) (l:Addr),ms.Perm ks→ms.Pairwise (· ≤ ·)→H l=none→Q (.ref l) (upd H l (.lst (ms.map V.int)))):=by
 intro pins s σ H xs us Q I r h
 obtain ⟨d,kvs,ks,rfl,hd,hk,h64,q⟩:=h
 obtain ⟨u,rfl,ru⟩:=vals1 r
 cases ru
 obtain ⟨z,lo,vs,rel,dd⟩:=ztc I.hok hd
 obtain ⟨ep,hat⟩:=dd.dictAt
 have hlv:vs.length=ks.length:=by
  rw [← rel.length,← List.length_map (f:=(·.1)),hk,List.length_map]
 have hsz:(64:Nat) ≤ sizeLine:=by decide
 refine Calls.call_function_entry kind_sorted plain_sorted entry_sorted (args_sorted1 _) ?_
 unfold Builtin.«sorted»
 refine wpAny_bind (m:=checkCount "sorted" 1 1 _) (wpAny_pure ?_)
 refine wpAny_bind (PySem.W.kdu_collect (A:=X.A.in1) (PySem.W.kdl_dict (knd:=zb8 X.prog X.w) (kvs:=vs) (ep:=ep) lo) (I.ok.hd hc) hat (by omega) fun h' tk acc hkp hacc=>?_)
 have hl:acc.toList.length=ks.length:=by rw [Array.length_toList,hacc.1,hlv]
 have hI:IntsAre acc.toList ks:=by
  refine intsAre_of (ns:=ks) ?_
  have key:∀ (js:List Int) (us:List Value),us.length=js.length→(∀ (i:Nat) (v:Value),us[i]? = some v→∃ (j:Int) (t:Tok),js[i]? = some j∧v=Value.int j t)→Vals (js.map V.int) us:=by
   intro js
   induction js with
   | nil=>intro us hl _;cases us with
    | nil=>exact .nil
    | cons _ _=>simp at hl
   | cons j js ih =>
    intro us hl hv
    cases us with
    | nil=>simp at hl
    | cons v us =>
     obtain ⟨j',t,e1,e2⟩:=hv 0 v rfl
     cases e1
     exact .cons ⟨t,e2⟩ (ih us (by simpa using hl) fun i w hw=>hv (i + 1) w (by simpa using hw))
  refine key ks acc.toList hl fun i v hv=>?_
  obtain ⟨k,x,e1,e2⟩:=hacc.2 i v (by rw [← Array.getElem?_toList];exact hv)
  have e3:(vs.map (·.1))[i]? = some k:=by rw [List.getElem?_map,e1];rfl
  rw [← rel.keys,hk,List.getElem?_map] at e3
  cases e4:ks[i]? with
  | none=>rw [e4] at e3;cases e3
  | some j =>
   rw [e4] at e3
   have e5:(Sum.inl j:Key)=k:=Option.some.inj e3
   subst e5
   rcases zbh (k:=Sum.inl j) (v:=v) e2 with ⟨i',t,q1,q2⟩ | ⟨_,_,q1,_⟩
   ·cases q1;exact ⟨j,t,rfl,q2⟩
   ·cases q1
 refine wpAny_bind (wpAny_newList ?_ (by rw [hl];omega))
 have hoL:(h'.push (seqObj "list" acc.toList.toArray 0)).get? h'.objs.size=some (seqObj "list" acc.toList.toArray 0):=Heap.get?_push_size _ rfl
 refine wpAny_bind (wpAny_holding (wpAny_call_entry slot_list_sort ⟨_,hoL,rfl⟩ entry_list_sort (list_sort_tree hoL hI (by omega) fun out ns' a1 a2 a3=>⟨_,rfl,?_⟩) (args_list_sort _)))
 refine wpAny_pure ⟨_,rfl,?_⟩
 have I1:Inv X pins σ H { s with heap:=h',toks:=tk }:=I.kept hkp
 have hf:H h'.objs.size=none:=I1.hok.fresh (Nat.le_refl _)
 obtain ⟨e1,ho1⟩ : ∃ e1,((h'.push (seqObj "list" acc.toList.toArray 0)).update h'.objs.size (Obj.mapSeq fun _=>#[])).get? h'.objs.size=some (seqObj "list" #[] e1):=⟨_,get?_update_seq hoL (fun _=>#[])⟩
 have ho2:=Heap.get?_push_of_some (seqObj "list" #[] 0) (Heap.get?_push_of_some (seqObj "tuple" acc.toList.toArray 0) ho1)
 obtain ⟨e2,ho3⟩ : ∃ e2,(sortedHeap (h'.push (seqObj "list" acc.toList.toArray 0)) h'.objs.size acc.toList out).get? h'.objs.size=some (seqObj "list" out e2):=⟨_,get?_update_seq ho2 (fun _=>out)⟩
 have kp:∀ b u,h'.get? b=some u→(sortedHeap (h'.push (seqObj "list" acc.toList.toArray 0)) h'.objs.size acc.toList out).get? b=some u:=fun b u e=>by
  have hb:b ≠ h'.objs.size:=Nat.ne_of_lt (Heap.lt_size e)
  unfold sortedHeap
  exact (Heap.get?_update_other _ _ (Ne.symm hb)).trans (Heap.get?_push_of_some _ (Heap.get?_push_of_some _ ((Heap.get?_update_other _ _ (Ne.symm hb)).trans (Heap.get?_push_of_some _ e))))
 have hv:Vals (ns'.map V.int) out.toList:=zhm a1
 have hln:ns'.length=ks.length:=a2.length_eq
 refine ⟨.ref h'.objs.size,upd H h'.objs.size (.lst (ns'.map V.int)),I1.laid (t':=tk) kp (Nat.le_refl _) ?_,rfl,q ns' _ a2 a3 hf⟩
 exact ⟨by rw [List.length_map];omega,out.toList,e2,hv,ho3⟩
end
end L2
namespace L2
open PySem PySem.Spec PyProof.Rows
section
variable {X:Cx}
end
theorem Rows.take {K:PySem.W.Frag} {H:Hp}:∀ {xs:List V} {rs:List (List Int)} (k:Nat),Rows K H xs rs→Rows K H (xs.take k) (rs.take k)
 | _,_,0,_ => .nil
 | _,_,_ + 1, .nil => .nil
 | _,_,k + 1, .cons q t => .cons q (Rows.take k t)
theorem Rows.append {K:PySem.W.Frag} {H:Hp}:∀ {xs ys:List V} {rs qs:List (List Int)},Rows K H xs rs→Rows K H ys qs→Rows K H (xs ++ ys) (rs ++ qs)
 | _,_,_,_, .nil,h=>h
 | _,_,_,_, .cons q t,h => .cons q (Rows.append t h)
end L2
namespace V2
open PySem PySem.Spec PyProof.Rows L2
inductive A where
 | int (i:Int) | bl (b:Bool) | str (x:Str) | non | ty (n:String) | adr (p:Addr) | exn (p d:Addr) (f:Str) (i:Int) | gl (x:Str) | scr (ns:List Int)
 | tup (ds:List A) | lst (ds:List A) | cel (k:Nat)
inductive Cell where
 | lst (ds:List A) | dct (kvs:List (Key × A)) | ins (C:Addr) (fs:List (Str × A)) | tab (x:Str) (pos:Pos) (qual:Str) | dead
structure Exc where
 cls:Str
 fs:List (Str × A)
inductive Rs (α:Type) where
 | ok (a:α) | exc (x:Exc)
abbrev Sto:=List Cell
abbrev Ev:=List (Option A)
abbrev Mo (α:Type):=Sto→Option (Rs α × Sto)
@[simp] def ret {α:Type} (a:α):Mo α:=fun Ω=>some (.ok a,Ω)
@[simp] def mb {α β:Type} (m:Mo α) (k:α→Mo β):Mo β:=fun Ω =>
 match m Ω with
 | some (.ok a,Ω1)=>k a Ω1
 | some (.exc x,Ω1)=>some (.exc x,Ω1)
 | none=>none
@[simp] def stuck {α:Type}:Mo α:=fun _=>none
@[simp] def need {α:Type} (o:Option α):Mo α:=fun Ω=>o.map fun a=>(.ok a,Ω)
@[simp] def chk (p:Prop) [Decidable p] : Mo Unit:=fun Ω=>if p then some (.ok (),Ω) else none
mutual
def Den (K:PySem.W.Frag) (G:Hp) (ι:List Addr):V→A→Prop
 | v, .int j=>v = .int j
 | v, .bl b=>v = .bl b
 | v, .str x=>v = .str x
 | v, .non=>v = .non
 | v, .ty n=>v = .ty n
 | v, .adr p=>v = .ref p
 | v, .exn p d f i=>v = .ref p∧G d=some (.xd [(f, .int i)])
 | v, .gl x=>∃ C,PySem.W.nsIn K mainGlobals x=some (some (.ref C))∧v = .ref C
 | v, .scr ns=>∃ a,v = .ref a∧SqL K G a (ns.map V.int)
 | v, .tup ds=>∃ a xs,v = .ref a∧G a=some (.tup xs)∧DenL K G ι xs ds
 | v, .lst ds=>∃ a xs,v = .ref a∧G a=some (.lst xs)∧DenL K G ι xs ds
 | v, .cel k=>∃ a,v = .ref a∧ι[k]? = some a
def DenL (K:PySem.W.Frag) (G:Hp) (ι:List Addr):List V→List A→Prop
 | xs,[]=>xs=[]
 | xs,d :: ds=>∃ x r,xs=x :: r∧Den K G ι x d∧DenL K G ι r ds
end
structure Ext (G:Hp) (ι:List Addr) (G':Hp) (ι':List Addr):Prop where
 same:Same G G'
 pre:∀ (k:Nat) (a:Addr),ι[k]? = some a→ι'[k]? = some a
theorem Ext.refl (G:Hp) (ι:List Addr):Ext G ι G ι:=⟨Same.refl _,fun _ _ h=>h⟩
theorem Ext.trans {G G1 G2:Hp} {ι ι1 ι2:List Addr} (a:Ext G ι G1 ι1) (b:Ext G1 ι1 G2 ι2):Ext G ι G2 ι2:=⟨a.same.trans b.same,fun k x h=>b.pre k x (a.pre k x h)⟩
section
variable {K:PySem.W.Frag} {G G':Hp} {ι ι':List Addr}
mutual
theorem Den.ext (e:Ext G ι G' ι'):∀ {v:V} {d:A},Den K G ι v d→Den K G' ι' v d
 | _, .int _,h=>by simpa only [Den] using h
 | _, .bl _,h=>by simpa only [Den] using h
 | _, .str _,h=>by simpa only [Den] using h
 | _, .non,h=>by simpa only [Den] using h
 | _, .ty _,h=>by simpa only [Den] using h
 | _, .adr _,h=>by simpa only [Den] using h
 | _, .exn _ _ _ _,h=>by
  simp only [Den] at h ⊢
  exact ⟨h.1,e.same _ _ h.2⟩
 | _, .gl _,h=>by simpa only [Den] using h
 | _, .scr _,h=>by
  simp only [Den] at h ⊢
  obtain ⟨a,h1,h2⟩:=h
  exact ⟨a,h1,e.same.seq h2⟩
 | _, .tup ds,h=>by
  simp only [Den] at h ⊢
  obtain ⟨a,xs,h1,h2,h3⟩:=h
  exact ⟨a,xs,h1,e.same _ _ h2,DenL.ext e h3⟩
 | _, .lst ds,h=>by
  simp only [Den] at h ⊢
  obtain ⟨a,xs,h1,h2,h3⟩:=h
  exact ⟨a,xs,h1,e.same _ _ h2,DenL.ext e h3⟩
 | _, .cel k,h=>by
  simp only [Den] at h ⊢
  obtain ⟨a,h1,h2⟩:=h
  exact ⟨a,h1,e.pre _ _ h2⟩
theorem DenL.ext (e:Ext G ι G' ι'):∀ {xs:List V} {ds:List A},DenL K G ι xs ds→DenL K G' ι' xs ds
 | _,[],h=>by simpa only [DenL] using h
 | _,d :: ds,h=>by
  simp only [DenL] at h ⊢
  obtain ⟨x,r,h1,h2,h3⟩:=h
  exact ⟨x,r,h1,Den.ext e h2,DenL.ext e h3⟩
end
theorem zca {xs:List V}:DenL K G ι xs []↔xs=[]:=by simp only [DenL]
theorem DenL.length:∀ {xs:List V} {ds:List A},DenL K G ι xs ds→xs.length=ds.length
 | _,[],h=>by simp only [DenL] at h;subst h;rfl
 | _,d :: ds,h=>by
  simp only [DenL] at h
  obtain ⟨x,r,rfl,h2,h3⟩:=h
  simp only [List.length_cons,DenL.length h3]
theorem DenL.nil:DenL K G ι [] []:=by simp only [DenL]
theorem DenL.cons {x:V} {xs:List V} {d:A} {ds:List A} (h:Den K G ι x d) (t:DenL K G ι xs ds):DenL K G ι (x :: xs) (d :: ds):=by
 simp only [DenL];exact ⟨x,xs,rfl,h,t⟩
theorem DenL.zcM {xs:List V} {d:A} {ds:List A} (h:DenL K G ι xs (d :: ds)):∃ x r,xs=x :: r∧Den K G ι x d∧DenL K G ι r ds:=by simpa only [DenL] using h
theorem DenL.get:∀ {xs:List V} {ds:List A} {i:Nat} {d:A},DenL K G ι xs ds→ds[i]? = some d→∃ x,xs[i]? = some x∧Den K G ι x d
 | _,[],_,_,_,e=>by simp at e
 | _,_ :: _,0,_,h,e=>by
  obtain ⟨x,r,rfl,h2,h3⟩:=h.zcM
  simp at e;subst e;exact ⟨x,rfl,h2⟩
 | _,_ :: _,i + 1,_,h,e=>by
  obtain ⟨x,r,rfl,h2,h3⟩:=h.zcM
  simp at e
  obtain ⟨y,q1,q2⟩:=DenL.get h3 e
  exact ⟨y,by simpa using q1,q2⟩
theorem DenL.append:∀ {xs ys:List V} {ds es:List A},DenL K G ι xs ds→DenL K G ι ys es→DenL K G ι (xs ++ ys) (ds ++ es)
 | _,_,[],_,h,t=>by rw [zca] at h;subst h;exact t
 | _,_,d :: ds,_,h,t=>by
  obtain ⟨x,r,rfl,h2,h3⟩:=h.zcM
  exact .cons h2 (DenL.append h3 t)
theorem DenL.take:∀ {xs:List V} {ds:List A} (n:Nat),DenL K G ι xs ds→DenL K G ι (xs.take n) (ds.take n)
 | _,_,0,_=>by simpa using DenL.nil
 | _,[],n + 1,h=>by rw [zca] at h;subst h;exact DenL.nil
 | _,d :: ds,n + 1,h=>by
  obtain ⟨x,r,rfl,h2,h3⟩:=h.zcM
  exact .cons h2 (DenL.take n h3)
theorem DenL.drop:∀ {xs:List V} {ds:List A} (n:Nat),DenL K G ι xs ds→DenL K G ι (xs.drop n) (ds.drop n)
 | _,_,0,h=>by simpa using h
 | _,[],n + 1,h=>by rw [zca] at h;subst h;exact DenL.nil
 | _,d :: ds,n + 1,h=>by
  obtain ⟨x,r,rfl,h2,h3⟩:=h.zcM
  exact DenL.drop n h3
theorem DenL.set {x:V} {d:A} (hx:Den K G ι x d):∀ {xs:List V} {ds:List A} (n:Nat),DenL K G ι xs ds→DenL K G ι (xs.set n x) (ds.set n d)
 | _,[],n,h=>by rw [zca] at h;subst h;exact DenL.nil
 | _,e :: ds,0,h=>by
  obtain ⟨y,r,rfl,h2,h3⟩:=h.zcM
  exact .cons hx h3
 | _,e :: ds,n + 1,h=>by
  obtain ⟨y,r,rfl,h2,h3⟩:=h.zcM
  exact .cons h2 (DenL.set hx n h3)
theorem zfL:∀ (ns:List Int),DenL K G ι (ns.map V.int) (ns.map A.int)
 | [] => .nil
 | n :: ns => .cons (by simp only [Den]) (zfL ns)
end
def zt6 (K:PySem.W.Frag) (G H:Hp) (a:Addr) (x:Str) (pos:Pos) (qual:Str):Prop :=
 G a=none∧(∃ c,PySem.W.tabIn K x=some (c,a))∧∃ ps,H a=some (.tbl ps)∧TriplesOk ps.toList ∧
  (codeAmong pos ps.toList=none∨∃ c' oc vs t,codeAmong pos ps.toList=some (.ref c')∧G c'=some (.frz oc (.own 0))∧oc.data = .fields vs∧vs[1]? = some (.str qual t))
def zio (K:PySem.W.Frag) (G:Hp) (ι:List Addr) (H:Hp) (a:Addr):Cell→Prop
 | .lst ds=>G a=none∧∃ xs,H a=some (.lst xs)∧DenL K G ι xs ds
 | .dct kvs=>G a=none∧∃ ws:List (Key × V),H a=some (.dK ws)∧ws.map (·.1)=kvs.map (·.1)∧DenL K G ι (ws.map (·.2)) (kvs.map (·.2))
 | .ins C fs=>G a=none∧∃ dx,∃ ws:List (Str × V),H a=some (.ins C dx ws)∧ws.map (·.1)=fs.map (·.1)∧DenL K G ι (ws.map (·.2)) (fs.map (·.2))
 | .tab x pos qual=>zt6 K G H a x pos qual
 | .dead=>True
structure Wd (K:PySem.W.Frag) (G:Hp) (ι:List Addr) (Ω:Sto) (H:Hp):Prop where
 sub:Same G H
 inj:ι.Nodup
 len:ι.length=Ω.length
 live:∀ a ∈ ι,∃ o,H a=some o
 cel:∀ (k:Nat) (c:Cell) (a:Addr),Ω[k]? = some c→ι[k]? = some a→zio K G ι H a c
section
variable {K:PySem.W.Frag} {G G' H H':Hp} {ι ι':List Addr} {Ω:Sto} {a p:Addr}
theorem zio.mono {c:Cell} (h:zio K G ι H a c) (e:Ext G ι G' ι') (hg:G' a=G a) (hh:H' a=H a):zio K G' ι' H' a c:=by
 cases c with
 | lst ds=>obtain ⟨g,xs,h1,h2⟩:=h;exact ⟨hg.trans g,xs,hh.trans h1,h2.ext e⟩
 | dct kvs=>obtain ⟨g,ws,h1,h2,h3⟩:=h;exact ⟨hg.trans g,ws,hh.trans h1,h2,h3.ext e⟩
 | ins C fs=>obtain ⟨g,dx,ws,h1,h2,h3⟩:=h;exact ⟨hg.trans g,dx,ws,hh.trans h1,h2,h3.ext e⟩
 | tab x pos qual =>
  obtain ⟨g,hc,ps,h1,h2,h3⟩:=h
  exact ⟨hg.trans g,hc,ps,hh.trans h1,h2,h3.imp id fun ⟨c',oc,vs,t,q1,q2,q3⟩=>⟨c',oc,vs,t,q1,e.same _ _ q2,q3⟩⟩
 | dead=>trivial
theorem Wd.addr (w:Wd K G ι Ω H) {k:Nat} {c:Cell} (h:Ω[k]? = some c):∃ a,ι[k]? = some a:=by
 have hk:=(List.getElem?_eq_some_iff.mp h).1
 exact ⟨ι[k]'(by rw [w.len];exact hk),List.getElem?_eq_getElem _⟩
theorem Wd.ne (w:Wd K G ι Ω H) (hp:H p=none) (ha:a ∈ ι):a ≠ p:=by
 obtain ⟨o,ho⟩:=w.live a ha
 exact zaK ho hp
theorem Wd.zgf (w:Wd K G ι Ω H) (hp:H p=none):G p=none:=by
 cases e:G p with
 | none=>rfl
 | some o=>rw [w.sub _ _ e] at hp;cases hp
theorem Wd.grow (w:Wd K G ι Ω H) (s:Same H H'):Wd K G ι Ω H' where
 sub:=w.sub.trans s
 inj:=w.inj
 len:=w.len
 live:=fun a ha=>let ⟨o,ho⟩:=w.live a ha; ⟨o,s _ _ ho⟩
 cel:=fun k c a h1 h2=>by
  have q:=w.cel k c a h1 h2
  cases c with
  | lst ds=>obtain ⟨g,xs,h1,h2⟩:=q;exact ⟨g,xs,s _ _ h1,h2⟩
  | dct kvs=>obtain ⟨g,ws,h1,h2,h3⟩:=q;exact ⟨g,ws,s _ _ h1,h2,h3⟩
  | ins C fs=>obtain ⟨g,dx,ws,h1,h2,h3⟩:=q;exact ⟨g,dx,ws,s _ _ h1,h2,h3⟩
  | tab x pos qual =>
   obtain ⟨g,hc,ps,h1,h2⟩:=q
   exact ⟨g,hc,ps,s _ _ h1,h2⟩
  | dead=>trivial
theorem zhV {α:Type}:∀ {l:List α} {i j:Nat} {x:α},l.Nodup→l[i]? = some x→l[j]? = some x→i=j
 | [],_,_,_,_,h,_=>by simp at h
 | y :: l,0,0,_,_,_,_=>rfl
 | y :: l,0,j + 1,x,n,h1,h2=>by
  simp at h1 h2;subst h1
  exact absurd (List.mem_of_getElem? h2) (List.nodup_cons.mp n).1
 | y :: l,i + 1,0,x,n,h1,h2=>by
  simp at h1 h2;subst h2
  exact absurd (List.mem_of_getElem? h1) (List.nodup_cons.mp n).1
 | y :: l,i + 1,j + 1,x,n,h1,h2=>by
  simp at h1 h2
  rw [zhV (List.nodup_cons.mp n).2 h1 h2]
theorem zid {α:Type} {l:List α} {k:Nat} {x:α} (h:l[k]? = some x):x ∈ l:=List.mem_of_getElem? h
theorem Ext.new (hp:G p=none) (o:HO):Ext G ι (upd G p o) ι:=⟨Same.new hp,fun _ _ h=>h⟩
theorem Wd.new (w:Wd K G ι Ω H) (hp:H p=none) (o:HO):Wd K (upd G p o) ι Ω (upd H p o) where
 sub:=fun b u h=>by
  by_cases e:b=p
  ·subst e;rw [zaw] at h ⊢;exact h
  ·rw [zap e] at h ⊢;exact w.sub _ _ h
 inj:=w.inj
 len:=w.len
 live:=fun a ha=>by rw [zap (w.ne hp ha)];exact w.live a ha
 cel:=fun k c a h1 h2=>by
  have n:=w.ne hp (zid h2)
  exact (w.cel k c a h1 h2).mono (Ext.new (w.zgf hp) o) (zap n) (zap n)
theorem Ext.cell (x:Addr):Ext G ι G (ι ++ [x]):=⟨Same.refl _,fun k a h=>by
 rw [List.getElem?_append_left (List.getElem?_eq_some_iff.mp h).1];exact h⟩
theorem Wd.cell (w:Wd K G ι Ω H) (hp:H p=none) {o:HO} {c:Cell} (hc:zio K G (ι ++ [p]) (upd H p o) p c):Wd K G (ι ++ [p]) (Ω ++ [c]) (upd H p o) where
 sub:=fun b u h=>by
  have e:b ≠ p:=fun e=>by subst e;rw [w.sub _ _ h] at hp;cases hp
  rw [zap e];exact w.sub _ _ h
 inj:=by
  rw [List.nodup_append]
  exact ⟨w.inj,by simp,fun a ha b hb=>by simp at hb;subst hb;exact w.ne hp ha⟩
 len:=by simp [w.len]
 live:=fun a ha=>by
  rcases List.mem_append.mp ha with h | h
  ·rw [zap (w.ne hp h)];exact w.live a h
  ·simp at h;subst h;exact ⟨o,zaw⟩
 cel:=fun k c' a h1 h2=>by
  by_cases hk:k < ι.length
  ·rw [List.getElem?_append_left hk] at h2
   rw [List.getElem?_append_left (by rw [← w.len];exact hk)] at h1
   exact (w.cel k c' a h1 h2).mono (Ext.cell p) rfl (zap (w.ne hp (zid h2)))
  ·have hk2:k=ι.length:=by
    have:=(List.getElem?_eq_some_iff.mp h2).1
    simp at this;omega
   subst hk2
   simp at h2;subst h2
   rw [w.len] at h1
   simp at h1;subst h1
   exact hc
theorem Wd.put (w:Wd K G ι Ω H) {k:Nat} {c:Cell} {o:HO} (hk:ι[k]? = some a) (hg:G a=none) (hc:zio K G ι (upd H a o) a c):Wd K G ι (Ω.set k c) (upd H a o) where
 sub:=fun b u h=>by
  have e:b ≠ a:=fun e=>by subst e;rw [hg] at h;cases h
  rw [zap e];exact w.sub _ _ h
 inj:=w.inj
 len:=by rw [List.length_set];exact w.len
 live:=fun b hb=>by
  by_cases e:b=a
  ·subst e;exact ⟨o,zaw⟩
  ·rw [zap e];exact w.live b hb
 cel:=fun j c' b h1 h2=>by
  by_cases hj:j=k
  ·subst hj
   rw [hk] at h2;cases h2
   have hl:j < Ω.length:=by rw [← w.len];exact (List.getElem?_eq_some_iff.mp hk).1
   rw [List.getElem?_set_self hl] at h1
   cases h1;exact hc
  ·rw [List.getElem?_set_ne (Ne.symm hj)] at h1
   have hne:b ≠ a:=fun e=>by
    subst e
    exact hj (zhV w.inj h2 hk)
   exact (w.cel j c' b h1 h2).mono (Ext.refl _ _) rfl (zap hne)
theorem Wd.freeze (w:Wd K G ι Ω H) {k:Nat} {o:HO} (hk:ι[k]? = some a) (hg:G a=none) (ho:H a=some o):Wd K (upd G a o) ι (Ω.set k .dead) H where
 sub:=fun b u h=>by
  by_cases e:b=a
  ·subst e;rw [zaw] at h;cases h;exact ho
  ·rw [zap e] at h;exact w.sub _ _ h
 inj:=w.inj
 len:=by rw [List.length_set];exact w.len
 live:=w.live
 cel:=fun j c' b h1 h2=>by
  by_cases hj:j=k
  ·subst hj
   have hl:j < Ω.length:=by rw [← w.len];exact (List.getElem?_eq_some_iff.mp hk).1
   rw [List.getElem?_set_self hl] at h1
   cases h1;trivial
  ·rw [List.getElem?_set_ne (Ne.symm hj)] at h1
   have hne:b ≠ a:=fun e=>by
    subst e
    exact hj (zhV w.inj h2 hk)
   exact (w.cel j c' b h1 h2).mono (Ext.new hg o) (zap hne) rfl
end
def EnvR (K:PySem.W.Frag) (G:Hp) (ι:List Addr) (σ:L2.St) (ρ:Ev):Prop:=σ.length=ρ.length∧∀ (i:Nat) (d:A),ρ[i]? = some (some d)→∃ v,σ[i]? = some (some v)∧Den K G ι v d
theorem EnvR.ext {K:PySem.W.Frag} {G G':Hp} {ι ι':List Addr} {σ:L2.St} {ρ:Ev} (r:EnvR K G ι σ ρ) (e:Ext G ι G' ι'):EnvR K G' ι' σ ρ:=⟨r.1,fun i d h=>let ⟨v,h1,h2⟩:=r.2 i d h; ⟨v,h1,h2.ext e⟩⟩
theorem EnvR.set {K:PySem.W.Frag} {G:Hp} {ι:List Addr} {σ:L2.St} {ρ:Ev} (r:EnvR K G ι σ ρ) (j:Nat) {v:V} {d:A} (h:Den K G ι v d):EnvR K G ι (σ.set j (some v)) (ρ.set j (some d)):=by
 refine ⟨by rw [List.length_set,List.length_set];exact r.1,fun i e he=>?_⟩
 by_cases hij:i=j
 ·subst hij
  have hl:i < ρ.length:=by
   have:=(List.getElem?_eq_some_iff.mp he).1
   rwa [List.length_set] at this
  rw [List.getElem?_set_self hl] at he
  cases he
  exact ⟨v,List.getElem?_set_self (by rw [r.1];exact hl),h⟩
 ·rw [List.getElem?_set_ne (Ne.symm hij)] at he ⊢
  exact r.2 i e he
theorem EnvR.unset {K:PySem.W.Frag} {G:Hp} {ι:List Addr} {σ:L2.St} {ρ:Ev} (r:EnvR K G ι σ ρ) (j:Nat) (o:Option V):EnvR K G ι (σ.set j o) (ρ.set j none):=by
 refine ⟨by rw [List.length_set,List.length_set];exact r.1,fun i e he=>?_⟩
 by_cases hij:i=j
 ·subst hij
  have hl:i < ρ.length:=by
   have:=(List.getElem?_eq_some_iff.mp he).1
   rwa [List.length_set] at this
  rw [List.getElem?_set_self hl] at he
  cases he
 ·rw [List.getElem?_set_ne (Ne.symm hij)] at he ⊢
  exact r.2 i e he
def ExcR (K:PySem.W.Frag) (G:Hp) (ι:List Addr) (H:Hp) (x:Exc) (cls:Value) (dx:Option Addr):Prop :=
 (∃ C,PySem.W.nsIn K mainGlobals x.cls=some (some (.ref C))∧cls = .ref C)∧((x.fs=[]∧dx=none)∨∃ d f i,dx=some d∧x.fs=[(f, .int i)]∧G d=some (.xd [(f, .int i)]))
abbrev Rl (α β:Type):=Hp→List Addr→β→α→Prop
def Post {α β:Type} (K:PySem.W.Frag) (rel:Rl α β) (W:WX) (G:Hp) (ι:List Addr) (σ:L2.St) (Q:β→Hp→Prop):Option (Rs α × Sto)→Prop
 | some (.ok a,Ω')=>∀ v H' G' ι',Ext G ι G' ι'→Wd K G' ι' Ω' H'→rel G' ι' v a→Q v H'
 | some (.exc x,Ω')=>∀ cls dx H' G' ι',Ext G ι G' ι'→Wd K G' ι' Ω' H'→ExcR K G' ι' H' x cls dx→W σ cls dx H'
 | none=>False
theorem Post.ext {α β:Type} {K:PySem.W.Frag} {rel:Rl α β} {W:WX} {G G1:Hp} {ι ι1:List Addr} {σ:L2.St} {Q:β→Hp→Prop} {r:Option (Rs α × Sto)} (h:Post K rel W G ι σ Q r) (e:Ext G ι G1 ι1):Post K rel W G1 ι1 σ Q r:=by
 match r,h with
 | some (.ok a,Ω'),h=>exact fun v H' G' ι' x w d=>h v H' G' ι' (e.trans x) w d
 | some (.exc x,Ω'),h=>exact fun cls dx H' G' ι' x w d=>h cls dx H' G' ι' (e.trans x) w d
theorem Post.mb {α β γ δ:Type} {K:PySem.W.Frag} {rel:Rl α β} {rel':Rl γ δ} {W:WX} {G:Hp} {ι:List Addr} {σ:L2.St} {Q:δ→Hp→Prop} {Q1:β→Hp→Prop} {m:Mo α} {k:α→Mo γ} {Ω:Sto} (h:Post K rel' W G ι σ Q (mb m k Ω))
  (hk:∀ a Ω1 v H1 G1 ι1,Ext G ι G1 ι1→Wd K G1 ι1 Ω1 H1→rel G1 ι1 v a→Post K rel' W G1 ι1 σ Q (k a Ω1)→Q1 v H1):Post K rel W G ι σ Q1 (m Ω):=by
 unfold V2.mb at h
 revert h
 generalize m Ω=r
 intro h
 match r,h with
 | some (.ok a,Ω1),h=>exact fun v H1 G1 ι1 x w d=>hk a Ω1 v H1 G1 ι1 x w d (Post.ext h x)
 | some (.exc x,Ω1),h=>exact h
theorem Post.need {α β γ:Type} {K:PySem.W.Frag} {rel':Rl α β} {W:WX} {G:Hp} {ι:List Addr} {σ:L2.St} {Q:β→Hp→Prop} {o:Option γ} {k:γ→Mo α} {Ω:Sto} (h:Post K rel' W G ι σ Q (V2.mb (need o) k Ω)):∃ a,o=some a∧Post K rel' W G ι σ Q (k a Ω):=by
 cases o with
 | none=>exact False.elim h
 | some a=>exact ⟨a,rfl,h⟩
theorem Post.chk {α β:Type} {K:PySem.W.Frag} {rel':Rl α β} {W:WX} {G:Hp} {ι:List Addr} {σ:L2.St} {Q:β→Hp→Prop} {p:Prop} [Decidable p] {k:Unit→Mo α} {Ω:Sto} (h:Post K rel' W G ι σ Q (V2.mb (chk p) k Ω)):p∧Post K rel' W G ι σ Q (k () Ω):=by
 unfold V2.mb V2.chk at h
 by_cases hp:p
 ·rw [if_pos hp] at h;exact ⟨hp,h⟩
 ·rw [if_neg hp] at h;exact False.elim h
def Sim {α β:Type} (K:PySem.W.Frag) (rel:Rl α β) (W:WX) (t:L2.St→Hp→(β→Hp→Prop)→Prop) (f:Ev→Mo α):Prop :=
 ∀ G ι Ω H σ ρ Q,Wd K G ι Ω H→EnvR K G ι σ ρ→Post K rel W G ι σ Q (f ρ Ω)→t σ H Q
def relB:Rl Bool Bool:=fun _ _ b c=>b=c
def VE (X:Cx) (W:WX) (e:Expr) (f:Ev→Mo A):Prop:=∃ t,PE X e t∧Sim X.K (Den X.K) W t f
def VT (X:Cx) (W:WX) (e:Expr) (f:Ev→Mo Bool):Prop:=∃ t,PT X e t∧Sim X.K relB W t f
def VW (X:Cx) (W:WX) (e:Expr) (f:Ev→Mo Bool):Prop:=∃ t,PW X e t∧Sim X.K relB W t f
def VA (X:Cx) (W:WX) (es:List Expr) (f:Ev→Mo (List A)):Prop:=∃ t,PA X es t∧Sim X.K (DenL X.K) W t f
end V2
namespace V2
open PySem PySem.Spec PyProof.Rows L2
section
variable {K:PySem.W.Frag} {G H:Hp} {ι:List Addr} {Ω:Sto} {v:V} {a:A}
def zaH (Ω:Sto):A→Option (List A)
 | .lst ds=>some ds
 | .scr ns=>some (ns.map A.int)
 | .cel k=>match Ω[k]? with
  | some (.lst ds)=>some ds
  | _=>none
 | _=>none
def zaF (Ω:Sto):A→Option (List A)
 | .tup ds=>some ds
 | a=>zaH Ω a
theorem zcI (w:Wd K G ι Ω H) (d:Den K G ι v a) {ds:List A} (h:zaH Ω a=some ds):∃ p xs,v = .ref p∧SqL K H p xs∧DenL K G ι xs ds:=by
 cases a with
 | lst es =>
  simp only [zaH,Option.some.injEq] at h;subst h
  simp only [Den] at d
  obtain ⟨p,xs,h1,h2,h3⟩:=d
  exact ⟨p,xs,h1,SqL.of (w.sub _ _ h2),h3⟩
 | scr ns =>
  simp only [zaH,Option.some.injEq] at h;subst h
  simp only [Den] at d
  obtain ⟨p,h1,h2⟩:=d
  exact ⟨p,_,h1,w.sub.seq h2,zfL ns⟩
 | cel k =>
  simp only [zaH] at h
  cases e:Ω[k]? with
  | none=>rw [e] at h;cases h
  | some c =>
   rw [e] at h
   cases c with
   | lst es =>
    simp only [Option.some.injEq] at h;subst h
    simp only [Den] at d
    obtain ⟨p,h1,h2⟩:=d
    obtain ⟨g,xs,h3,h4⟩:=w.cel k _ p e h2
    exact ⟨p,xs,h1,SqL.of h3,h4⟩
   | _=>cases h
 | _=>simp [zaH] at h
theorem zfO (w:Wd K G ι Ω H) (d:Den K G ι v a) {ds:List A} (h:zaF Ω a=some ds):∃ p xs,v = .ref p∧(SqL K H p xs∨SqT K H p xs)∧DenL K G ι xs ds:=by
 cases a with
 | tup es =>
  simp only [zaF,Option.some.injEq] at h;subst h
  simp only [Den] at d
  obtain ⟨p,xs,h1,h2,h3⟩:=d
  exact ⟨p,xs,h1, .inr (SqT.of (w.sub _ _ h2)),h3⟩
 | _ =>
  obtain ⟨p,xs,h1,h2,h3⟩:=zcI w d h
  exact ⟨p,xs,h1, .inl h2,h3⟩
theorem zi5 (w:Wd K G ι Ω H) (d:Den K G ι v a) {ds:List A} (h:zaH Ω a=some ds) (hs:∀ ns,a ≠ .scr ns):∃ p xs,v = .ref p∧H p=some (.lst xs)∧DenL K G ι xs ds:=by
 cases a with
 | lst es =>
  simp only [zaH,Option.some.injEq] at h;subst h
  simp only [Den] at d
  obtain ⟨p,xs,h1,h2,h3⟩:=d
  exact ⟨p,xs,h1,w.sub _ _ h2,h3⟩
 | scr ns=>exact absurd rfl (hs ns)
 | cel k =>
  simp only [zaH] at h
  cases e:Ω[k]? with
  | none=>rw [e] at h;cases h
  | some c =>
   rw [e] at h
   cases c with
   | lst es =>
    simp only [Option.some.injEq] at h;subst h
    simp only [Den] at d
    obtain ⟨p,h1,h2⟩:=d
    obtain ⟨g,xs,h3,h4⟩:=w.cel k _ p e h2
    exact ⟨p,xs,h1,h3,h4⟩
   | _=>cases h
 | _=>simp [zaH] at h
end
@[simp] def mkL (c:Bool) (ds:List A):Mo A:=fun Ω=>if c then some (.ok (.cel Ω.length),Ω ++ [.lst ds]) else some (.ok (.lst ds),Ω)
section
variable {K:PySem.W.Frag} {G H:Hp} {ι:List Addr} {Ω:Sto} {W:WX} {σ:L2.St} {Q:VK}
theorem zhA {c:Bool} {ds:List A} {xs:List V} {p:Addr} (w:Wd K G ι Ω H) (hp:H p=none) (d:DenL K G ι xs ds) (h:Post K (Den K) W G ι σ Q (mkL c ds Ω)):Q (.ref p) (upd H p (.lst xs)):=by
 cases c with
 | true =>
  refine h _ _ G (ι ++ [p]) (Ext.cell p) (w.cell hp ⟨w.zgf hp,xs,zaw,d.ext (Ext.cell p)⟩) ?_
  simp only [Den]
  exact ⟨p,rfl,by rw [← w.len];simp⟩
 | false =>
  refine h _ _ _ _ (Ext.new (w.zgf hp) (.lst xs)) (w.new hp _) ?_
  simp only [Den]
  exact ⟨p,xs,rfl,zaw,d.ext (Ext.new (w.zgf hp) _)⟩
@[simp] def mkT (ds:List A):Mo A:=ret (.tup ds)
theorem znh {ds:List A} {xs:List V} {p:Addr} (w:Wd K G ι Ω H) (hp:H p=none) (d:DenL K G ι xs ds) (h:Post K (Den K) W G ι σ Q (mkT ds Ω)):Q (.ref p) (upd H p (.tup xs)):=by
 refine h _ _ _ _ (Ext.new (w.zgf hp) (.tup xs)) (w.new hp _) ?_
 simp only [Den]
 exact ⟨p,xs,rfl,zaw,d.ext (Ext.new (w.zgf hp) _)⟩
theorem zbk {α β:Type} {rel:Rl α β} {Q:β→Hp→Prop} {a:α} {b:β} (w:Wd K G ι Ω H) (d:rel G ι b a) (h:Post K rel W G ι σ Q (ret a Ω)):Q b H:=h b H G ι (Ext.refl _ _) w d
end
section
variable {X:Cx} {W:WX} {e a b:Expr} {es:List Expr} {pos:Pos} {fa fb:Ev→Mo A} {fs:Ev→Mo (List A)}
@[simp] def vVar (i:Nat):Ev→Mo A:=fun ρ=>need (ρ[i]?).join
theorem join_some {α:Type} {o:Option (Option α)} {x:α} (h:o.join=some x):o=some (some x):=by
 cases o with
 | none=>cases h
 | some y=>cases y with
  | none=>cases h
  | some z=>cases h;rfl
theorem zp4 {K:PySem.W.Frag} {i:Nat}:Sim K (Den K) W (tVar i) (vVar i):=by
 intro G ι Ω H σ ρ Q w r h
 unfold vVar need at h
 cases e:(ρ[i]?).join with
 | none=>rw [e] at h;exact False.elim h
 | some d =>
  rw [e] at h
  obtain ⟨v,h1,h2⟩:=r.2 i d (join_some e)
  exact ⟨v,h1,h v H G ι (Ext.refl _ _) w h2⟩
theorem vv (i:Nat) {x:Str} (hN:X.N[i]? = some x:=by rfl) (hv:Vis X.env.scope x:=by first | exact Or.inl rfl | exact Or.inr (Or.inl rfl) | exact Or.inr (Or.inr rfl)) (hd:(x == ("__debug__" : Str))=false:=by decide)
  (hcd:(x == ("__classdict__" : Str))=false:=by decide):VE X W (.Name x pos) (vVar i):=⟨_,zgH hN hv hd hcd,zp4⟩
@[simp] def vFrz (i:Nat):Ev→Mo A:=fun ρ Ω=>match (ρ[i]?).join with
 | some (.cel k)=>match Ω[k]? with
  | some (.lst ds)=>some (.ok (.lst ds),Ω.set k .dead)
  | _=>none
 | _=>none
theorem zrt {K:PySem.W.Frag} {i:Nat}:Sim K (Den K) W (tVar i) (vFrz i):=by
 intro G ι Ω H σ ρ Q w r h
 unfold vFrz at h
 cases e:(ρ[i]?).join with
 | none=>rw [e] at h;exact False.elim h
 | some d =>
  rw [e] at h
  cases d with
  | cel k =>
   simp only at h
   cases e2:Ω[k]? with
   | none=>rw [e2] at h;exact False.elim h
   | some c =>
    rw [e2] at h
    cases c with
    | lst ds =>
     obtain ⟨v,h1,h2⟩:=r.2 i _ (join_some e)
     simp only [Den] at h2
     obtain ⟨p,rfl,h4⟩:=h2
     obtain ⟨g,xs,h5,h6⟩:=w.cel k _ p e2 h4
     refine ⟨_,h1,h _ H (upd G p (.lst xs)) ι (Ext.new g _) (w.freeze h4 g h5) ?_⟩
     simp only [Den]
     exact ⟨p,xs,rfl,zaw,h6.ext (Ext.new g _)⟩
    | _=>exact False.elim h
  | _=>exact False.elim h
theorem vf (i:Nat) {x:Str} (hN:X.N[i]? = some x:=by rfl) (hv:Vis X.env.scope x:=by first | exact Or.inl rfl | exact Or.inr (Or.inl rfl) | exact Or.inr (Or.inr rfl)) (hd:(x == ("__debug__" : Str))=false:=by decide)
  (hcd:(x == ("__classdict__" : Str))=false:=by decide):VE X W (.Name x pos) (vFrz i):=⟨_,zgH hN hv hd hcd,zrt⟩
theorem znI {K:PySem.W.Frag} {v:V} {d:A} (h:∀ G ι,Den K G ι v d):Sim K (Den K) W (tC v) (fun _=>ret d):=fun G ι _ _ _ _ _ w _ q=>zbk w (h G ι) q
theorem zac {i:Int} {j}:VE X W (.Constant (.int i) j pos) (fun _=>ret (.int i)):=⟨_,ztj,znI fun _ _=>by simp only [Den]⟩
theorem zfs {i:Bool} {j}:VE X W (.Constant (.bool i) j pos) (fun _=>ret (.bl i)):=⟨_,ztK,znI fun _ _=>by simp only [Den]⟩
theorem zhx {j}:VE X W (.Constant .none j pos) (fun _=>ret .non):=⟨_,zsi,znI fun _ _=>by simp only [Den]⟩
theorem zfU {x:Str} {j}:VE X W (.Constant (.str x) j pos) (fun _=>ret (.str x)):=⟨_,zsb,znI fun _ _=>by simp only [Den]⟩
theorem zoC {x:Str} {i:Int} (hg:Gl X x) (hm:∃ t,X.mg x=some (.int i t)) (hd:(x == ("__debug__" : Str))=false:=by decide):VE X W (.Name x pos) (fun _=>ret (.int i)):=by
 obtain ⟨t,hm⟩:=hm
 exact ⟨_,zpS (v := .int i) hg hm ⟨t,rfl⟩ hd,znI fun _ _=>by simp only [Den]⟩
theorem zag:VA X W [] (fun _=>ret []):=⟨_,zlF,fun _ _ _ _ _ _ _ w _ q=>zbk w .nil q⟩
@[simp] def zad (f:Ev→Mo A) (g:Ev→Mo (List A)):Ev→Mo (List A):=fun ρ=>mb (f ρ) fun x=>mb (g ρ) fun xs=>ret (x :: xs)
theorem zaa (h1:VE X W e fa) (h2:VA X W es fs) (hs:starEach (e :: es) X.env=(false,eval e X.env) :: starEach es X.env:=by rfl):VA X W (e :: es) (zad fa fs):=by
 obtain ⟨t,p1,s1⟩:=h1
 obtain ⟨u,p2,s2⟩:=h2
 refine ⟨_,zgv p1 p2 hs,fun G ι Ω H σ ρ Q w r h=>?_⟩
 refine s1 G ι Ω H σ ρ _ w r (Post.mb h fun x Ω1 v H1 G1 ι1 x1 w1 d1 h1=>?_)
 refine s2 G1 ι1 Ω1 H1 σ ρ _ w1 (r.ext x1) (Post.mb h1 fun xs Ω2 vs H2 G2 ι2 x2 w2 d2 h2=>?_)
 exact zbk w2 (.cons (d1.ext x2) d2) h2
@[simp] def vTup (g:Ev→Mo (List A)):Ev→Mo A:=fun ρ=>mb (g ρ) fun xs=>mb (chk (xs.length ≤ sizeLine)) fun _=>mkT xs
theorem zdO {k} (h:VA X W es fs):VE X W (.Tuple es k pos) (vTup fs):=by
 obtain ⟨t,p,s⟩:=h
 refine ⟨_,zsd p,fun G ι Ω H σ ρ Q w r h=>?_⟩
 refine s G ι Ω H σ ρ _ w r (Post.mb h fun xs Ω1 vs H1 G1 ι1 x1 w1 d1 h1=>?_)
 obtain ⟨hl,h2⟩:=Post.chk h1
 exact ⟨by rw [d1.length];exact hl,fun p hp=>znh w1 hp d1 h2⟩
@[simp] def vLst (c:Bool) (g:Ev→Mo (List A)):Ev→Mo A:=fun ρ=>mb (g ρ) fun xs=>mb (chk (xs.length ≤ sizeLine)) fun _=>mkL c xs
theorem zbF (c:Bool) (h:VA X W es fs):VE X W (.List es pos) (vLst c fs):=by
 obtain ⟨t,p,s⟩:=h
 refine ⟨_,zrJ p,fun G ι Ω H σ ρ Q w r h=>?_⟩
 refine s G ι Ω H σ ρ _ w r (Post.mb h fun xs Ω1 vs H1 G1 ι1 x1 w1 d1 h1=>?_)
 obtain ⟨hl,h2⟩:=Post.chk h1
 exact ⟨by rw [d1.length];exact hl,fun p hp=>zhA w1 hp d1 h2⟩
def OpV (K:PySem.W.Frag) (W:WX) (r:R2) (g:A→A→Mo A):Prop :=
 ∀ G ι Ω H σ x y a b Q,Wd K G ι Ω H→Den K G ι x a→Den K G ι y b→Post K (Den K) W G ι σ Q (g a b Ω)→r x y H Q
def OpOk (X:Cx) (W:WX) (f:Value→Value→Sem Value) (g:A→A→Mo A):Prop:=∃ r,OpR X f r∧OpV X.K W r g
@[simp] def vOp (g:A→A→Mo A) (f h:Ev→Mo A):Ev→Mo A:=fun ρ=>mb (f ρ) fun x=>mb (h ρ) fun y=>g x y
theorem zlS {K:PySem.W.Frag} {r:R2} {g:A→A→Mo A} {ta tb:TE} (ho:OpV K W r g) (h1:Sim K (Den K) W ta fa) (h2:Sim K (Den K) W tb fb):Sim K (Den K) W (tOp r ta tb) (vOp g fa fb):=by
 intro G ι Ω H σ ρ Q w q h
 refine h1 G ι Ω H σ ρ _ w q (Post.mb h fun x Ω1 v H1 G1 ι1 x1 w1 d1 h1=>?_)
 refine h2 G1 ι1 Ω1 H1 σ ρ _ w1 (q.ext x1) (Post.mb h1 fun y Ω2 u H2 G2 ι2 x2 w2 d2 h2=>?_)
 exact ho G2 ι2 Ω2 H2 σ v u x y Q w2 (d1.ext x2) d2 h2
theorem zal {op:Operator} {g:A→A→Mo A} (ho:OpOk X W (binaryOp op) g) (ha:VE X W a fa) (hb:VE X W b fb):VE X W (.BinOp a op b pos) (vOp g fa fb):=by
 obtain ⟨r,o1,o2⟩:=ho
 obtain ⟨t,p1,s1⟩:=ha
 obtain ⟨u,p2,s2⟩:=hb
 exact ⟨_,zue o1 p1 p2,zlS o2 s1 s2⟩
@[simp] def gI (C:Int→Int→Prop) [∀ i j,Decidable (C i j)] (g:Int→Int→A):A→A→Mo A
 | .int i, .int j=>mb (chk (C i j)) fun _=>ret (g i j)
 | _,_=>stuck
theorem zot {K:PySem.W.Frag} {C:Int→Int→Prop} [∀ i j,Decidable (C i j)] {g:Int→Int→V} {g':Int→Int→A} (hg:∀ G ι i j,Den K G ι (g i j) (g' i j)):OpV K W (rI C g) (gI C g'):=by
 intro G ι Ω H σ x y a b Q w d1 d2 h
 cases a with
 | int i =>
  cases b with
  | int j =>
   simp only [Den] at d1 d2
   obtain ⟨hc,h2⟩:=Post.chk h
   exact ⟨i,j,d1,d2,hc,zbk w (hg _ _ _ _) h2⟩
  | _=>exact False.elim h
 | _=>exact False.elim h
@[simp] def gI0 (g:Int→Int→A):A→A→Mo A
 | .int i, .int j=>ret (g i j)
 | _,_=>stuck
theorem zkl {K:PySem.W.Frag} {g:Int→Int→V} {g':Int→Int→A} (hg:∀ G ι i j,Den K G ι (g i j) (g' i j)):OpV K W (rI0 g) (gI0 g'):=by
 intro G ι Ω H σ x y a b Q w d1 d2 h
 cases a with
 | int i =>
  cases b with
  | int j =>
   simp only [Den] at d1 d2
   exact ⟨i,j,d1,d2,zbk w (hg _ _ _ _) h⟩
  | _=>exact False.elim h
 | _=>exact False.elim h
instance:∀ i j,Decidable (CMul i j):=fun i j=>by unfold CMul;infer_instance
instance:∀ i j,Decidable (CDiv i j):=fun i j=>by unfold CDiv;infer_instance
instance:∀ i j,Decidable (CPow i j):=fun i j=>by unfold CPow;infer_instance
@[simp] def gSub:=gI0 fun i j => .int (i - j)
@[simp] def gMul:=gI CMul fun i j => .int (i * j)
@[simp] def gDiv:=gI CDiv fun i j => .int (i / j)
@[simp] def gMod:=gI (fun _ j=>0 < j) fun i j => .int (i % j)
theorem zda:OpOk X W (binaryOp .Sub) gSub:=⟨_,zsU,zkl fun _ _ _ _=>by simp only [Den]⟩
theorem zmg:OpOk X W (binaryOp .Mult) gMul:=⟨_,zrN,zot fun _ _ _ _=>by simp only [Den]⟩
theorem zd1:OpOk X W (binaryOp .FloorDiv) gDiv:=⟨_,zqJ,zot fun _ _ _ _=>by simp only [Den]⟩
theorem zdh:OpOk X W (binaryOp .Mod) gMod:=⟨_,zsE,zot fun _ _ _ _=>by simp only [Den]⟩
@[simp] def zk3:A→Bool
 | .scr _=>true
 | _=>false
theorem zoe {a:A} (h:zk3 a=false):∀ ns,a ≠ .scr ns:=fun ns e=>by subst e;cases h
@[simp] def gCat (c:Bool) (a b:A):Mo A:=fun Ω=>match zaH Ω a,zaH Ω b with
  | some xs,some ys=>if zk3 a || zk3 b || decide (sizeLine < xs.length + ys.length) then none else mkL c (xs ++ ys) Ω
  | _,_=>none
@[simp] def gAdd (c:Bool):A→A→Mo A
 | .int i, .int j=>ret (.int (i + j))
 | .tup xs, .tup ys=>mb (chk (0 < xs.length∧xs.length + ys.length ≤ sizeLine)) fun _=>mkT (xs ++ ys)
 | a,b=>gCat c a b
theorem zq5 {K:PySem.W.Frag} {c:Bool}:OpV K W rCat (gCat c):=by
 intro G ι Ω H σ x y a b Q w d1 d2 h
 unfold gCat at h
 match e1:zaH Ω a,e2:zaH Ω b with
 | none,_=>rw [e1] at h;exact False.elim h
 | some xs,none=>rw [e1,e2] at h;exact False.elim h
 | some xs,some ys =>
  rw [e1,e2] at h
  simp only at h
  by_cases hb:(zk3 a || zk3 b || decide (sizeLine < xs.length + ys.length))=true
  ·rw [if_pos hb] at h;exact False.elim h
  ·rw [if_neg hb] at h
   simp only [Bool.or_eq_true,decide_eq_true_eq,not_or,Bool.not_eq_true] at hb
   obtain ⟨p,us,rfl,h2,h3⟩:=zi5 w d1 e1 (zoe hb.1.1)
   obtain ⟨q,ws,rfl,h5,h6⟩:=zi5 w d2 e2 (zoe hb.1.2)
   exact ⟨p,q,us,ws,rfl,rfl,h2,h5,by rw [h3.length,h6.length];omega,fun r hr=>zhA w hr (h3.append h6) h⟩
theorem zbH (c:Bool):OpOk X W (binaryOp .Add) (gAdd c):=by
 refine ⟨_,zrH.or (zsh.or zq7),?_⟩
 intro G ι Ω H σ x y a b Q w d1 d2 h
 unfold gAdd at h
 split at h
 ·simp only [Den] at d1 d2
  exact .inl ⟨_,_,d1,d2,zbk w (by simp only [Den]) h⟩
 ·rename_i xs ys
  simp only [Den] at d1 d2
  obtain ⟨p,us,rfl,h2,h3⟩:=d1
  obtain ⟨q,ws,rfl,h5,h6⟩:=d2
  obtain ⟨⟨c1,c2⟩,h⟩:=Post.chk h
  refine .inr (.inr ⟨p,q,us,ws,rfl,rfl,SqT.of (w.sub _ _ h2),SqT.of (w.sub _ _ h5),?_,by rw [h3.length,h6.length];exact c2,fun e=>?_,fun _ r hr=>znh w hr (h3.append h6) h⟩)
  ·intro e
   subst e
   have:=h3.length
   simp at this
   omega
  ·subst e
   refine zbk w ?_ h
   simp only [Den]
   exact ⟨p,us,rfl,h2,by simpa using h3.append h6⟩
 ·exact .inr (.inl (zq5 G ι Ω H σ x y _ _ Q w d1 d2 h))
end
end V2
namespace V2
open PySem PySem.Spec PyProof.Rows L2
def pur:Nat→A→Bool
 | _, .int _=>true
 | _, .bl _=>true
 | _, .non=>true
 | _, .str x=>PyData.canLay0 (.str x)
 | n + 1, .tup ds=>ds.all (pur n)
 | n + 1, .lst ds=>ds.all (pur n)
 | _,_=>false
def zis (f:A→A→Bool):List A→List A→Bool
 | [],[]=>true
 | x :: xs,y :: ys=>f x y && zis f xs ys
 | _,_=>false
def eqA:Nat→A→A→Bool
 | _, .int i, .int j=>i == j
 | _, .bl i, .bl j=>i == j
 | _, .bl i, .int j=>(if i then 1 else 0) == j
 | _, .int i, .bl j=>i == (if j then 1 else 0)
 | _, .non, .non=>true
 | _, .str x, .str y=>x == y
 | n + 1, .tup xs, .tup ys=>zis (eqA n) xs ys
 | n + 1, .lst xs, .lst ys=>zis (eqA n) xs ys
 | _,_,_=>false
def toPy:Nat→A→PyData
 | _, .int i => .int i
 | _, .bl i => .bool i
 | _, .str x => .str x
 | n + 1, .tup ds => .tuple (ds.map (toPy n))
 | n + 1, .lst ds => .list (ds.map (toPy n))
 | _,_ => .none
theorem zls:∀ (ds:List A) (n:Nat),(∀ d ∈ ds,pur n d=true→PyData.canLay0 (toPy n d)=true)→ds.all (pur n)=true→PyData.canLayAll0 (ds.map (toPy n))=true
 | [],_,_,_=>rfl
 | d :: ds,n,ih,h=>by
  simp only [List.all_cons,Bool.and_eq_true] at h
  simp only [List.map_cons,PyData.canLayAll0,Bool.and_eq_true]
  exact ⟨ih d (List.mem_cons_self ..) h.1,zls ds n (fun e he=>ih e (List.mem_cons_of_mem _ he)) h.2⟩
theorem zfc:∀ (n:Nat) (a:A),pur n a=true→PyData.canLay0 (toPy n a)=true:=by
 intro n
 induction n with
 | zero=>intro a h;cases a <;> first | rfl | exact h | cases h
 | succ n ih =>
  intro a h
  cases a with
  | tup ds=>exact zls ds n (fun d _=>ih d) h
  | lst ds=>exact zls ds n (fun d _=>ih d) h
  | str x=>exact h
  | int i=>rfl
  | bl b=>rfl
  | non=>rfl
  | _=>cases h
theorem znM:∀ (ds:List A) (n:Nat),(∀ d ∈ ds,(toPy n d).depth ≤ n)→PyData.depthAll (ds.map (toPy n)) ≤ n
 | [],_,_=>Nat.zero_le _
 | d :: ds,n,ih=>by
  simp only [List.map_cons,PyData.depthAll]
  exact Nat.max_le.mpr ⟨ih d (List.mem_cons_self ..),znM ds n fun e he=>ih e (List.mem_cons_of_mem _ he)⟩
theorem zgc:∀ (n:Nat) (a:A),(toPy n a).depth ≤ n:=by
 intro n
 induction n with
 | zero=>intro a;cases a <;> exact Nat.le_refl _
 | succ n ih =>
  intro a
  cases a with
  | tup ds=>exact Nat.succ_le_succ (znM ds n fun d _=>ih d)
  | lst ds=>exact Nat.succ_le_succ (znM ds n fun d _=>ih d)
  | _=>exact Nat.zero_le _
theorem zpw:∀ (xs ys:List A) (n:Nat),(∀ x ∈ xs,∀ y ∈ ys,PyData.eqv (toPy n x) (toPy n y)=eqA n x y)→PyData.eqvAll (xs.map (toPy n)) (ys.map (toPy n))=zis (eqA n) xs ys
 | [],[],_,_=>rfl
 | [],_ :: _,_,_=>rfl
 | _ :: _,[],_,_=>rfl
 | x :: xs,y :: ys,n,ih=>by
  simp only [List.map_cons,PyData.eqvAll,zis]
  rw [ih x (List.mem_cons_self ..) y (List.mem_cons_self ..),zpw xs ys n fun a ha b hb=>ih a (List.mem_cons_of_mem _ ha) b (List.mem_cons_of_mem _ hb)]
theorem ziu:∀ (n:Nat) (a b:A),pur n a=true→pur n b=true→PyData.eqv (toPy n a) (toPy n b)=eqA n a b:=by
 intro n
 induction n with
 | zero=>intro a b ha hb;cases a <;> cases b <;> first | rfl | (simp [pur] at ha;done) | (simp [pur] at hb;done)
 | succ n ih =>
  intro a b ha hb
  have lst:∀ xs ys:List A,xs.all (pur n)=true→ys.all (pur n)=true→PyData.eqvAll (xs.map (toPy n)) (ys.map (toPy n))=zis (eqA n) xs ys:=fun xs ys h1 h2 =>
   zpw xs ys n fun x hx y hy=>ih x y (List.all_eq_true.mp h1 x hx) (List.all_eq_true.mp h2 y hy)
  cases a <;> cases b <;> first | rfl | (simp [pur] at ha;done) | (simp [pur] at hb;done) | exact lst _ _ ha hb
section
variable {X:Cx} {pins:List (Addr × Obj)} {σ:L2.St} {H:Hp} {s:Shared} {ι:List Addr}
theorem readsAll (n:Nat) (ih:∀ (v:V) (u:Value) (a:A),pur n a=true→Den X.K H ι v a→RelV v u→∃ as,Reads s.heap u (toPy n a) as) :
  ∀ (ds:List A) (xs:List V) (us:List Value),ds.all (pur n)=true→DenL X.K H ι xs ds→Vals xs us→∃ as,ReadsAll s.heap us (ds.map (toPy n)) as
 | [],xs,us,_,d,r=>by
  rw [zca] at d;subst d;cases r;exact ⟨_, .nil⟩
 | a :: ds,xs,us,h,d,r=>by
  obtain ⟨x,t,rfl,d1,d2⟩:=d.zcM
  simp only [List.all_cons,Bool.and_eq_true] at h
  cases r with
  | cons r1 r2 =>
   obtain ⟨as,q1⟩:=ih _ _ _ h.1 d1 r1
   obtain ⟨bs,q2⟩:=readsAll n ih ds _ _ h.2 d2 r2
   exact ⟨_, .cons q1 q2⟩
theorem zfd (I:Inv X pins σ H s):∀ (n:Nat) (v:V) (u:Value) (a:A),pur n a=true→Den X.K H ι v a→RelV v u→∃ as,Reads s.heap u (toPy n a) as:=by
 intro n
 induction n with
 | zero =>
  intro v u a h d r
  cases a with
  | int i=>simp only [Den] at d;subst d;obtain ⟨t,rfl⟩:=r;exact ⟨_, .int i t⟩
  | bl b=>simp only [Den] at d;subst d;cases r;exact ⟨_, .bool b⟩
  | str x=>simp only [Den] at d;subst d;obtain ⟨t,rfl⟩:=r;exact ⟨_, .str x t⟩
  | non=>simp only [Den] at d;subst d;cases r;exact ⟨_, .none⟩
  | _=>cases h
 | succ n ih =>
  intro v u a h d r
  cases a with
  | int i=>simp only [Den] at d;subst d;obtain ⟨t,rfl⟩:=r;exact ⟨_, .int i t⟩
  | bl b=>simp only [Den] at d;subst d;cases r;exact ⟨_, .bool b⟩
  | str x=>simp only [Den] at d;subst d;obtain ⟨t,rfl⟩:=r;exact ⟨_, .str x t⟩
  | non=>simp only [Den] at d;subst d;cases r;exact ⟨_, .none⟩
  | tup ds =>
   simp only [Den] at d
   obtain ⟨p,xs,rfl,h2,h3⟩:=d
   cases r
   obtain ⟨its,rv,pl,hz⟩:=I.tuple (SqT.of h2)
   obtain ⟨as,q⟩:=readsAll n ih ds xs its h h3 rv
   obtain ⟨o,ho,hc,m,hd⟩:=(show s.heap.IsTuple p its.toArray from pl)
   exact ⟨_, .tuple ho hc hd (by simpa using q)⟩
  | lst ds =>
   simp only [Den] at d
   obtain ⟨p,xs,rfl,h2,h3⟩:=d
   cases r
   obtain ⟨its,rv,pl,hz⟩:=I.list (SqL.of h2)
   obtain ⟨as,q⟩:=readsAll n ih ds xs its h h3 rv
   obtain ⟨o,ho,hc,m,hd⟩:=pl.isList
   exact ⟨_, .list ho hc hd (by simpa using q)⟩
  | _=>cases h
end
def rEqA (K:PySem.W.Frag) (neg:Bool):R2:=fun x y H Q=>∃ ι a b,pur 8 a=true∧pur 8 b=true∧Den K H ι x a∧Den K H ι y b∧Q (.bl (if neg then !eqA 8 a b else eqA 8 a b)) H
theorem zsO {X:Cx} (hu:X.A.units + 64 < cLine):OpR X (compareOp .Eq) (rEqA X.K false):=by
 intro pins s σ H x y v u Q I rx ry h
 obtain ⟨ι,a,b,h1,h2,d1,d2,q⟩:=h
 obtain ⟨as,q1⟩:=zfd I 8 x v a h1 d1 rx
 obtain ⟨bs,q2⟩:=zfd I 8 y u b h2 d2 ry
 have e1:=zgc 8 a
 refine SeqAt.compareEq_reads q1 q2 (zfc 8 a h1) (zfc 8 b h2) (by omega) ?_
 rw [ziu 8 a b h1 h2]
 exact ⟨.bl (eqA 8 a b),H,I,rfl,q⟩
theorem zsV {X:Cx} (hu:X.A.units + 64 < cLine):OpR X (compareOp .NotEq) (rEqA X.K true):=by
 intro pins s σ H x y v u Q I rx ry h
 obtain ⟨ι,a,b,h1,h2,d1,d2,q⟩:=h
 obtain ⟨as,q1⟩:=zfd I 8 x v a h1 d1 rx
 obtain ⟨bs,q2⟩:=zfd I 8 y u b h2 d2 ry
 have e1:=zgc 8 a
 refine SeqAt.compareNe_reads q1 q2 (zfc 8 a h1) (zfc 8 b h2) (by omega) ?_
 rw [ziu 8 a b h1 h2]
 exact ⟨.bl (!eqA 8 a b),H,I,rfl,q⟩
def mapO (f:A→Option A):List A→Option (List A)
 | []=>some []
 | x :: xs=>match f x,mapO f xs with
  | some y,some ys=>some (y :: ys)
  | _,_=>none
def res (Ω:Sto):Nat→A→Option A
 | 0,a=>if pur 8 a=true then some a else none
 | n + 1,a=>if pur 8 a=true then some a else match a with
  | .tup ds=>(mapO (res Ω n) ds).map .tup
  | .lst ds=>(mapO (res Ω n) ds).map .lst
  | .cel k=>match Ω[k]? with
   | some (.lst ds)=>(mapO (res Ω n) ds).map .lst
   | _=>none
  | _=>none
section
variable {K:PySem.W.Frag} {G H:Hp} {ι:List Addr} {Ω:Sto}
theorem Wd.extH (w:Wd K G ι Ω H):Ext G ι H ι:=⟨w.sub,fun _ _ h=>h⟩
theorem zjo {f:A→Option A} (ih:∀ v a b,Den K G ι v a→f a=some b→Den K H ι v b):∀ (ds es:List A) (xs:List V),DenL K G ι xs ds→mapO f ds=some es→DenL K H ι xs es
 | [],es,xs,d,h=>by
  simp only [mapO,Option.some.injEq] at h;subst h
  rw [zca] at d ⊢;exact d
 | a :: ds,es,xs,d,h=>by
  obtain ⟨x,t,rfl,d1,d2⟩:=d.zcM
  simp only [mapO] at h
  split at h
  ·rename_i y ys e1 e2
   cases h
   exact .cons (ih _ _ _ d1 e1) (zjo ih ds ys t d2 e2)
  ·cases h
theorem zlj (w:Wd K G ι Ω H):∀ (n:Nat) (v:V) (a b:A),Den K G ι v a→res Ω n a=some b→Den K H ι v b:=by
 intro n
 induction n with
 | zero =>
  intro v a b d h
  simp only [res] at h
  split at h
  ·cases h;exact d.ext w.extH
  ·cases h
 | succ n ih =>
  intro v a b d h
  simp only [res] at h
  split at h
  ·cases h;exact d.ext w.extH
  ·split at h
   ·rename_i ds _
    simp only [Option.map_eq_some_iff] at h
    obtain ⟨es,h1,rfl⟩:=h
    simp only [Den] at d ⊢
    obtain ⟨p,xs,q1,q2,q3⟩:=d
    exact ⟨p,xs,q1,w.sub _ _ q2,zjo ih ds es xs q3 h1⟩
   ·rename_i ds _
    simp only [Option.map_eq_some_iff] at h
    obtain ⟨es,h1,rfl⟩:=h
    simp only [Den] at d ⊢
    obtain ⟨p,xs,q1,q2,q3⟩:=d
    exact ⟨p,xs,q1,w.sub _ _ q2,zjo ih ds es xs q3 h1⟩
   ·rename_i k _
    split at h
    ·rename_i ds e
     simp only [Option.map_eq_some_iff] at h
     obtain ⟨es,h1,rfl⟩:=h
     simp only [Den] at d ⊢
     obtain ⟨p,q1,q2⟩:=d
     obtain ⟨g,xs,q3,q4⟩:=w.cel k _ p e q2
     exact ⟨p,xs,q1,q3,zjo ih ds es xs q4 h1⟩
    ·cases h
   ·cases h
end
def gEqB (neg:Bool) (a b:A):Mo A:=fun Ω=>match res Ω 6 a,res Ω 6 b with
 | some x,some y=>if (pur 8 x && pur 8 y)=true then some (.ok (.bl (if neg then !eqA 8 x y else eqA 8 x y)),Ω) else none
 | _,_=>none
def gEq:=gEqB false
def gNe:=gEqB true
section
variable {X:Cx} {W:WX} {e a b c:Expr} {pos:Pos} {fa fb fc:Ev→Mo A} {ta tb:Ev→Mo Bool}
theorem zm3 {K:PySem.W.Frag} {neg:Bool}:OpV K W (rEqA K neg) (gEqB neg):=by
 intro G ι Ω H σ x y a b Q w d1 d2 h
 unfold gEqB at h
 split at h
 ·rename_i a' b' e1 e2
  split at h
  ·rename_i hp
   rw [Bool.and_eq_true] at hp
   exact ⟨ι,a',b',hp.1,hp.2,zlj w 6 x a a' d1 e1,zlj w 6 y b b' d2 e2,h _ H G ι (Ext.refl _ _) w (by simp only [Den])⟩
  ·exact False.elim h
 ·exact False.elim h
theorem o_eq (hu:X.A.units + 64 < cLine):OpOk X W (compareOp .Eq) gEq:=⟨_,zsO hu,zm3⟩
theorem o_ne (hu:X.A.units + 64 < cLine):OpOk X W (compareOp .NotEq) gNe:=⟨_,zsV hu,zm3⟩
@[simp] def gLt:=gI0 fun i j => .bl (decide (i < j))
@[simp] def gLe:=gI0 fun i j => .bl (decide (i ≤ j))
@[simp] def gGt:=gI0 fun i j => .bl (decide (j < i))
@[simp] def gGe:=gI0 fun i j => .bl (decide (j ≤ i))
theorem o_lt:OpOk X W (compareOp .Lt) gLt:=⟨_,ztL,zkl fun _ _ _ _=>by simp only [Den]⟩
theorem o_le:OpOk X W (compareOp .LtE) gLe:=⟨_,zuh,zkl fun _ _ _ _=>by simp only [Den]⟩
theorem o_gt:OpOk X W (compareOp .Gt) gGt:=⟨_,zt8,zkl fun _ _ _ _=>by simp only [Den]⟩
theorem o_ge:OpOk X W (compareOp .GtE) gGe:=⟨_,zt1,zkl fun _ _ _ _=>by simp only [Den]⟩
def zh5:A→Option Bool
 | .non=>some true
 | _=>some false
theorem zle {K:PySem.W.Frag} {G:Hp} {ι:List Addr} {v:V} {a:A} (d:Den K G ι v a):zh5 a=some (decide (v = .non)):=by
 cases a with
 | non=>simp only [Den] at d;subst d;rfl
 | tup ds=>simp only [Den] at d;obtain ⟨p,xs,rfl,_⟩:=d;rfl
 | lst ds=>simp only [Den] at d;obtain ⟨p,xs,rfl,_⟩:=d;rfl
 | scr ds=>simp only [Den] at d;obtain ⟨p,rfl,_⟩:=d;rfl
 | cel ds=>simp only [Den] at d;obtain ⟨p,rfl,_⟩:=d;rfl
 | gl x=>simp only [Den] at d;obtain ⟨p,_,rfl⟩:=d;rfl
 | exn p d' f i=>simp only [Den] at d;obtain ⟨rfl,_⟩:=d;rfl
 | _=>simp only [Den] at d;subst d;rfl
@[simp] def gIsN (neg:Bool):A→A→Mo A
 | a, .non=>mb (need (zh5 a)) fun k=>ret (.bl (if neg then !k else k))
 | _,_=>stuck
theorem ztV:OpOk X W (compareOp .Is) (gIsN false):=by
 refine ⟨_,zsH,?_⟩
 intro G ι Ω H σ x y a b Q w d1 d2 h
 cases b with
 | non =>
  simp only [Den] at d2
  obtain ⟨k,e,h⟩:=Post.need h
  rw [zle d1] at e
  cases e
  exact ⟨d2,zbk w (by simp only [Den];rfl) h⟩
 | _=>exact False.elim h
theorem zpr:OpOk X W (compareOp .IsNot) (gIsN true):=by
 refine ⟨_,zrs,?_⟩
 intro G ι Ω H σ x y a b Q w d1 d2 h
 cases b with
 | non =>
  simp only [Den] at d2
  obtain ⟨k,e,h⟩:=Post.need h
  rw [zle d1] at e
  cases e
  exact ⟨d2,zbk w (by simp only [Den];rfl) h⟩
 | _=>exact False.elim h
@[simp] def zoJ:A→Mo Bool
 | .bl b=>ret b
 | _=>stuck
@[simp] def zay (f:Ev→Mo A):Ev→Mo Bool:=fun ρ=>mb (f ρ) zoJ
theorem zir {K:PySem.W.Frag} {t:TE} (h:Sim K (Den K) W t fa):Sim K relB W (zrT t) (zay fa):=by
 intro G ι Ω H σ ρ Q w r q
 refine h G ι Ω H σ ρ _ w r (Post.mb q fun x Ω1 v H1 G1 ι1 x1 w1 d1 h1=>?_)
 cases x with
 | bl b=>simp only [Den] at d1;exact ⟨b,d1,zbk w1 rfl h1⟩
 | _=>exact False.elim h1
theorem zbD {op:CmpOp} {g:A→A→Mo A} (ho:OpOk X W (compareOp op) g) (ha:VE X W a fa) (hb:VE X W b fb) (hm:behindInMarks op b=false):VE X W (.Compare a [op] [b] pos) (vOp g fa fb):=by
 obtain ⟨r,o1,o2⟩:=ho
 obtain ⟨t,p1,s1⟩:=ha
 obtain ⟨u,p2,s2⟩:=hb
 exact ⟨_,zp2 o1 p1 p2 hm,zlS o2 s1 s2⟩
theorem zaE {op:CmpOp} {g:A→A→Mo A} (ho:OpOk X W (compareOp op) g) (ha:VE X W a fa) (hb:VE X W b fb) (hm:behindInMarks op b=false):VT X W (.Compare a [op] [b] pos) (zay (vOp g fa fb)):=by
 obtain ⟨r,o1,o2⟩:=ho
 obtain ⟨t,p1,s1⟩:=ha
 obtain ⟨u,p2,s2⟩:=hb
 exact ⟨_,zqT o1 p1 p2 hm,zir (zlS o2 s1 s2)⟩
@[simp] def znt (g g':A→A→Mo A) (f1 f2 f3:Ev→Mo A):Ev→Mo A:=fun ρ=>mb (f1 ρ) fun x=>mb (f2 ρ) fun y=>mb (g x y) fun z=>mb (zoJ z) fun k=>if k then mb (f3 ρ) fun u=>g' y u else ret (.bl false)
theorem znc {K:PySem.W.Frag} {r r':R2} {g g':A→A→Mo A} {t1 t2 t3:TE} (ho:OpV K W r g) (ho':OpV K W r' g') (h1:Sim K (Den K) W t1 fa) (h2:Sim K (Den K) W t2 fb) (h3:Sim K (Den K) W t3 fc):Sim K (Den K) W (zpt r r' t1 t2 t3) (znt g g' fa fb fc):=by
 intro G ι Ω H σ ρ Q w q h
 refine h1 G ι Ω H σ ρ _ w q (Post.mb h fun x Ω1 v H1 G1 ι1 x1 w1 d1 h1=>?_)
 refine h2 G1 ι1 Ω1 H1 σ ρ _ w1 (q.ext x1) (Post.mb h1 fun y Ω2 u H2 G2 ι2 x2 w2 d2 h2=>?_)
 refine ho G2 ι2 Ω2 H2 σ v u x y _ w2 (d1.ext x2) d2 (Post.mb h2 fun z Ω3 z' H3 G3 ι3 x3 w3 d3 h3'=>?_)
 cases z with
 | bl k =>
  simp only [Den] at d3
  refine ⟨k,d3,?_⟩
  cases k with
  | true=>exact h3 G3 ι3 Ω3 H3 σ ρ _ w3 (q.ext ((x1.trans x2).trans x3)) (Post.mb h3' fun m Ω4 m' H4 G4 ι4 x4 w4 d4 h4=>ho' G4 ι4 Ω4 H4 σ u m' y m Q w4 (d2.ext (x3.trans x4)) d4 h4)
  | false=>exact zbk w3 (by simp only [Den]) h3'
 | _=>exact False.elim h3'
theorem zol {op op':CmpOp} {g g':A→A→Mo A} (ho:OpOk X W (compareOp op) g) (ho':OpOk X W (compareOp op') g') (ha:VE X W a fa) (hb:VE X W b fb) (hc:VE X W c fc)
  (hm:lastMarks [op,op'] [b,c]=false:=by with_unfolding_all rfl):VE X W (.Compare a [op,op'] [b,c] pos) (znt g g' fa fb fc):=by
 obtain ⟨r,o1,o2⟩:=ho
 obtain ⟨r',o1',o2'⟩:=ho'
 obtain ⟨t,p1,s1⟩:=ha
 obtain ⟨u,p2,s2⟩:=hb
 obtain ⟨u',p3,s3⟩:=hc
 exact ⟨_,zo1 o1 o1' p1 p2 p3 hm,znc o2 o2' s1 s2 s3⟩
theorem zez (h:VE X W e fa) (he:∀ whole,isTrue e X.env whole=(do let v ← whole;standAt e.pos;holding [v] (truthy v)):=by intro _;rfl):VT X W e (zay fa):=by
 obtain ⟨t,p,s⟩:=h
 exact ⟨_,zr3 p he,zir s⟩
@[simp] def zh6 (f g:Ev→Mo Bool):Ev→Mo Bool:=fun ρ=>mb (f ρ) fun c=>if c then g ρ else ret false
@[simp] def vOrT (f g:Ev→Mo Bool):Ev→Mo Bool:=fun ρ=>mb (f ρ) fun c=>if c then ret true else g ρ
@[simp] def zgR (f:Ev→Mo Bool):Ev→Mo Bool:=fun ρ=>mb (f ρ) fun c=>ret (!c)
variable {rest:List Expr}
theorem zeN (h:VT X W a ta):VW X W (.BoolOp .And [a] pos) ta:=let ⟨t,p,s⟩:=h; ⟨t,pw_and1 p,s⟩
theorem zep (h:VT X W a ta):VW X W (.BoolOp .Or [a] pos) ta:=let ⟨t,p,s⟩:=h; ⟨t,pw_or1 p,s⟩
theorem zgO (h1:VT X W a ta) (h2:VW X W (.BoolOp .And (b :: rest) pos) tb):VW X W (.BoolOp .And (a :: b :: rest) pos) (zh6 ta tb):=by
 obtain ⟨t,p1,s1⟩:=h1
 obtain ⟨u,p2,s2⟩:=h2
 refine ⟨_,pw_and p1 p2,fun G ι Ω H σ ρ Q w r h=>?_⟩
 refine s1 G ι Ω H σ ρ _ w r (Post.mb h fun c Ω1 c' H1 G1 ι1 x1 w1 d1 h1=>?_)
 cases (show c'=c from d1)
 cases c with
 | true=>exact s2 G1 ι1 Ω1 H1 σ ρ Q w1 (r.ext x1) h1
 | false=>exact zbk w1 rfl h1
theorem zfp (h1:VT X W a ta) (h2:VW X W (.BoolOp .Or (b :: rest) pos) tb):VW X W (.BoolOp .Or (a :: b :: rest) pos) (vOrT ta tb):=by
 obtain ⟨t,p1,s1⟩:=h1
 obtain ⟨u,p2,s2⟩:=h2
 refine ⟨_,pw_or p1 p2,fun G ι Ω H σ ρ Q w r h=>?_⟩
 refine s1 G ι Ω H σ ρ _ w r (Post.mb h fun c Ω1 c' H1 G1 ι1 x1 w1 d1 h1=>?_)
 cases (show c'=c from d1)
 cases c with
 | false=>exact s2 G1 ι1 Ω1 H1 σ ρ Q w1 (r.ext x1) h1
 | true=>exact zbk w1 rfl h1
theorem VW.vt (h:VW X W e ta):VT X W e ta:=let ⟨t,p,s⟩:=h; ⟨t,p.pt,s⟩
theorem zfR (h:VT X W a ta):VT X W (.UnaryOp .Not a pos) (zgR ta):=by
 obtain ⟨t,p,s⟩:=h
 refine ⟨_,zte p,fun G ι Ω H σ ρ Q w r h=>?_⟩
 refine s G ι Ω H σ ρ _ w r (Post.mb h fun c Ω1 c' H1 G1 ι1 x1 w1 d1 h1=>?_)
 cases (show c'=c from d1)
 exact zbk w1 rfl h1
@[simp] def vAnd (f g:Ev→Mo A):Ev→Mo A:=fun ρ=>mb (f ρ) fun x=>mb (zoJ x) fun c=>if c then g ρ else ret (.bl false)
@[simp] def vOr (f g:Ev→Mo A):Ev→Mo A:=fun ρ=>mb (f ρ) fun x=>mb (zoJ x) fun c=>if c then ret (.bl true) else g ρ
theorem zgJ {op} (h:VE X W a fa):VE X W (.BoolOp op [a] pos) fa:=let ⟨t,p,s⟩:=h; ⟨t,zsQ p,s⟩
theorem zlB (h1:VE X W a fa) (h2:VE X W (.BoolOp .And (b :: rest) pos) fb):VE X W (.BoolOp .And (a :: b :: rest) pos) (vAnd fa fb):=by
 obtain ⟨t,p1,s1⟩:=h1
 obtain ⟨u,p2,s2⟩:=h2
 refine ⟨_,zsB p1 p2,fun G ι Ω H σ ρ Q w r h=>?_⟩
 refine s1 G ι Ω H σ ρ _ w r (Post.mb h fun x Ω1 v H1 G1 ι1 x1 w1 d1 h1=>?_)
 cases x with
 | bl c =>
  simp only [Den] at d1
  refine ⟨c,d1,?_⟩
  cases c with
  | true=>exact s2 G1 ι1 Ω1 H1 σ ρ Q w1 (r.ext x1) h1
  | false=>exact zbk w1 (by simp only [Den]) h1
 | _=>exact False.elim h1
theorem zoo (h1:VE X W a fa) (h2:VE X W (.BoolOp .Or (b :: rest) pos) fb):VE X W (.BoolOp .Or (a :: b :: rest) pos) (vOr fa fb):=by
 obtain ⟨t,p1,s1⟩:=h1
 obtain ⟨u,p2,s2⟩:=h2
 refine ⟨_,zts p1 p2,fun G ι Ω H σ ρ Q w r h=>?_⟩
 refine s1 G ι Ω H σ ρ _ w r (Post.mb h fun x Ω1 v H1 G1 ι1 x1 w1 d1 h1=>?_)
 cases x with
 | bl c =>
  simp only [Den] at d1
  refine ⟨c,d1,?_⟩
  cases c with
  | false=>exact s2 G1 ι1 Ω1 H1 σ ρ Q w1 (r.ext x1) h1
  | true=>exact zbk w1 (by simp only [Den]) h1
 | _=>exact False.elim h1
@[simp] def vIf (t:Ev→Mo Bool) (f g:Ev→Mo A):Ev→Mo A:=fun ρ=>mb (t ρ) fun c=>if c then f ρ else g ρ
theorem zr5 (hc:VT X W c ta) (h1:VE X W a fa) (h2:VE X W b fb):VE X W (.IfExp c a b pos) (vIf ta fa fb):=by
 obtain ⟨t0,p0,s0⟩:=hc
 obtain ⟨t,p1,s1⟩:=h1
 obtain ⟨u,p2,s2⟩:=h2
 refine ⟨_,zoj p0 p1 p2,fun G ι Ω H σ ρ Q w r h=>?_⟩
 refine s0 G ι Ω H σ ρ _ w r (Post.mb h fun c Ω1 c' H1 G1 ι1 x1 w1 d1 h1=>?_)
 cases (show c'=c from d1)
 cases c with
 | true=>exact s1 G1 ι1 Ω1 H1 σ ρ Q w1 (r.ext x1) h1
 | false=>exact s2 G1 ι1 Ω1 H1 σ ρ Q w1 (r.ext x1) h1
@[simp] def vNeg (f:Ev→Mo A):Ev→Mo A:=fun ρ=>mb (f ρ) fun x=>match x with
 | .int i=>ret (.int (-i))
 | _=>stuck
theorem zpq (h:VE X W a fa):VE X W (.UnaryOp .USub a pos) (vNeg fa):=by
 obtain ⟨t,p,s⟩:=h
 refine ⟨_,ztF zrS p,fun G ι Ω H σ ρ Q w r h=>?_⟩
 refine s G ι Ω H σ ρ _ w r (Post.mb h fun x Ω1 v H1 G1 ι1 x1 w1 d1 h1=>?_)
 cases x with
 | int c =>
  simp only [Den] at d1
  exact ⟨c,d1,zbk w1 (by simp only [Den]) h1⟩
 | _=>exact False.elim h1
end
end V2
namespace V2
open PySem PySem.Spec PyProof.Rows L2
inductive Out where
 | nx | bk | ct | ret (a:A) | exc (x:Exc)
abbrev OS:=Option (Out × Ev × Sto)
abbrev MS:=Ev→Sto→OS
def OutS (K:PySem.W.Frag) (W:WX) (G:Hp) (ι:List Addr) (D:Ends) (σ:L2.St) (H:Hp):Out→Prop
 | .nx=>D.nx σ H
 | .bk=>D.bk σ H
 | .ct=>D.ct σ H
 | .ret a=>∀ v,Den K G ι v a→D.rt v H
 | .exc x=>∀ cls dx,ExcR K G ι H x cls dx→W σ cls dx H
def zbx (K:PySem.W.Frag) (W:WX) (G:Hp) (ι:List Addr) (D:Ends):OS→Prop
 | some (o,ρ',Ω')=>∀ σ' H' G' ι',Ext G ι G' ι'→Wd K G' ι' Ω' H'→EnvR K G' ι' σ' ρ'→OutS K W G' ι' D σ' H' o
 | none=>False
@[simp] def sM {α:Type} (m:Mo α) (ρ:Ev) (k:α→Sto→OS):Sto→OS:=fun Ω=>match m Ω with
 | some (.ok a,Ω1)=>k a Ω1
 | some (.exc x,Ω1)=>some (.exc x,ρ,Ω1)
 | none=>none
section
variable {K:PySem.W.Frag} {W:WX} {G:Hp} {ι:List Addr} {Ω:Sto} {σ:L2.St} {ρ:Ev} {D:Ends}
theorem zbx.ext {G1:Hp} {ι1:List Addr} {r:OS} (h:zbx K W G ι D r) (e:Ext G ι G1 ι1):zbx K W G1 ι1 D r:=by
 match r,h with
 | some (o,ρ',Ω'),h=>exact fun σ' H' G' ι' x w d=>h σ' H' G' ι' (e.trans x) w d
theorem zbx.sM {α β:Type} {rel:Rl α β} {m:Mo α} {k:α→Sto→OS} {Q1:β→Hp→Prop} (h:zbx K W G ι D (V2.sM m ρ k Ω)) (r:EnvR K G ι σ ρ)
  (hk:∀ a Ω1 v H1 G1 ι1,Ext G ι G1 ι1→Wd K G1 ι1 Ω1 H1→rel G1 ι1 v a→zbx K W G1 ι1 D (k a Ω1)→Q1 v H1):Post K rel W G ι σ Q1 (m Ω):=by
 unfold V2.sM at h
 revert h
 generalize m Ω=q
 intro h
 match q,h with
 | some (.ok a,Ω1),h=>exact fun v H1 G1 ι1 x w d=>hk a Ω1 v H1 G1 ι1 x w d (zbx.ext h x)
 | some (.exc x,Ω1),h=>exact fun cls dx H' G' ι' e w d=>h σ H' G' ι' e w (r.ext e) cls dx d
end
def SimS (K:PySem.W.Frag) (W:WX) (t:TS) (f:MS):Prop:=∀ G ι Ω H σ ρ D,Wd K G ι Ω H→EnvR K G ι σ ρ→zbx K W G ι D (f ρ Ω)→t D σ H
def VS (X:Cx) (W:WX) (st:Stmt) (f:MS):Prop:=∃ t,PS X st t∧SimS X.K W t f
def VSs (X:Cx) (W:WX) (st:List Stmt) (f:MS):Prop:=∃ t,PSs X st t∧SimS X.K W t f
def SimG (K:PySem.W.Frag) (W:WX) (t:TG) (g:A→MS):Prop:=∀ G ι Ω H σ ρ v a D,Wd K G ι Ω H→EnvR K G ι σ ρ→Den K G ι v a→zbx K W G ι D (g a ρ Ω)→t v σ H D.nx
def zt7 (K:PySem.W.Frag) (W:WX) (t:TGs) (g:List A→MS):Prop:=∀ G ι Ω H σ ρ vs as D,Wd K G ι Ω H→EnvR K G ι σ ρ→DenL K G ι vs as→zbx K W G ι D (g as ρ Ω)→t vs σ H D.nx
def VG (X:Cx) (W:WX) (tg:Expr) (g:A→MS):Prop:=∃ t,PG X tg t∧SimG X.K W t g
def VGs (X:Cx) (W:WX) (tgs:List Expr) (g:List A→MS):Prop:=∃ t,PGs X tgs t∧zt7 X.K W t g
@[simp] def sNx:MS:=fun ρ Ω=>some (.nx,ρ,Ω)
@[simp] def sSeq (f g:MS):MS:=fun ρ Ω=>match f ρ Ω with
 | some (.nx,ρ1,Ω1)=>g ρ1 Ω1
 | r=>r
section
variable {X:Cx} {W:WX} {st:Stmt} {rest:List Stmt} {f g:MS} {e:Expr} {fe:Ev→Mo A} {pos:Pos}
theorem zja {K:PySem.W.Frag} {G H:Hp} {ι:List Addr} {Ω:Sto} {σ:L2.St} {ρ:Ev} {D:Ends} (w:Wd K G ι Ω H) (r:EnvR K G ι σ ρ) (h:zbx K W G ι D (some (.nx,ρ,Ω))):D.nx σ H:=h σ H G ι (Ext.refl _ _) w r
theorem zaM:VSs X W [] sNx:=⟨_,zq6,fun _ _ _ _ _ _ _ w r h=>zja w r h⟩
theorem znl {K:PySem.W.Frag} {t u:TS} (h1:SimS K W t f) (h2:SimS K W u g):SimS K W (tSeq t u) (sSeq f g):=by
 intro G ι Ω H σ ρ D w r h
 refine h1 G ι Ω H σ ρ _ w r ?_
 unfold sSeq at h
 revert h
 generalize f ρ Ω=q
 intro h
 match q,h with
 | some (.nx,ρ1,Ω1),h=>exact fun σ' H' G' ι' x w' r'=>h2 G' ι' Ω1 H' σ' ρ1 D w' r' (zbx.ext h x)
 | some (.bk,ρ1,Ω1),h=>exact h
 | some (.ct,ρ1,Ω1),h=>exact h
 | some (.ret a,ρ1,Ω1),h=>exact h
 | some (.exc a,ρ1,Ω1),h=>exact h
theorem zae (h1:VS X W st f) (h2:VSs X W rest g):VSs X W (st :: rest) (sSeq f g):=by
 obtain ⟨t,p1,s1⟩:=h1
 obtain ⟨u,p2,s2⟩:=h2
 exact ⟨_,zpc p1 p2,znl s1 s2⟩
theorem zah (h1:VS X W st f):VSs X W [st] f:=let ⟨t,p,s⟩:=h1; ⟨t,zqE p,s⟩
@[simp] def sExp (fe:Ev→Mo A):MS:=fun ρ=>sM (fe ρ) ρ fun _ Ω=>some (.nx,ρ,Ω)
theorem zeR (h:VE X W e fe) (hs:swapsWith e none pos.line X.env=pure false:=by rfl):VS X W (.Expr e pos) (sExp fe):=by
 obtain ⟨t,p,s⟩:=h
 refine ⟨_,zp6 p hs,fun G ι Ω H σ ρ D w r h=>?_⟩
 exact s G ι Ω H σ ρ _ w r (zbx.sM h r fun a Ω1 v H1 G1 ι1 x1 w1 d1 h1=>zja w1 (r.ext x1) h1)
@[simp] def sRet (fe:Ev→Mo A):MS:=fun ρ=>sM (fe ρ) ρ fun a Ω=>some (.ret a,ρ,Ω)
theorem zaI (h:VE X W e fe):VS X W (.Return (some e) pos) (sRet fe):=by
 obtain ⟨t,p,s⟩:=h
 refine ⟨_,zsx p,fun G ι Ω H σ ρ D w r h=>?_⟩
 exact s G ι Ω H σ ρ _ w r (zbx.sM h r fun a Ω1 v H1 G1 ι1 x1 w1 d1 h1=>h1 σ H1 G1 ι1 (Ext.refl _ _) w1 (r.ext x1) v d1)
@[simp] def sIf (c:Ev→Mo Bool) (f g:MS):MS:=fun ρ=>sM (c ρ) ρ fun b Ω=>if b then f ρ Ω else g ρ Ω
theorem zbX {c:Expr} {a b:List Stmt} {fc:Ev→Mo Bool} (hc:VT X W c fc) (h1:VSs X W a f) (h2:VSs X W b g):VS X W (.If c a b pos) (sIf fc f g):=by
 obtain ⟨t0,p0,s0⟩:=hc
 obtain ⟨t,p1,s1⟩:=h1
 obtain ⟨u,p2,s2⟩:=h2
 refine ⟨_,ztx p0 p1 p2,fun G ι Ω H σ ρ D w r h=>?_⟩
 refine s0 G ι Ω H σ ρ _ w r (zbx.sM h r fun c Ω1 c' H1 G1 ι1 x1 w1 d1 h1=>?_)
 cases (show c'=c from d1)
 cases c with
 | true=>exact s1 G1 ι1 Ω1 H1 σ ρ D w1 (r.ext x1) h1
 | false=>exact s2 G1 ι1 Ω1 H1 σ ρ D w1 (r.ext x1) h1
@[simp] def gN (i:Nat):A→MS:=fun a ρ Ω=>some (.nx,ρ.set i (some a),Ω)
theorem zau {i:Nat} {x:Str} (hN:X.N.Nodup) (hi:X.N[i]? = some x) (hx:Loc X.env.scope x) (hf:X.fn x=true∨X.env.scope.names.lookup x=some .local:=by first | exact .inl rfl | exact .inr rfl | assumption):VG X W (.Name x pos) (gN i) :=
 ⟨_,zpZ hN hi hx hf,fun _ _ _ _ _ _ _ _ _ w r d h=>zja w (r.set i d) h⟩
@[simp] def zcU:List A→MS:=fun as ρ Ω=>match as with
 | []=>some (.nx,ρ,Ω)
 | _=>none
@[simp] def zat (g:A→MS) (gs:List A→MS):List A→MS:=fun as=>match as with
 | a :: r=>sSeq (g a) (gs r)
 | []=>fun _ _=>none
theorem zcQ:VGs X W [] zcU:=⟨_,zpV,fun G ι Ω H σ ρ vs as D w r d h=>by
 cases as with
 | nil=>rw [zca] at d;exact ⟨d,zja w r h⟩
 | cons=>exact False.elim h⟩
theorem zaA {es:List Expr} {g:A→MS} {gs:List A→MS} (h1:VG X W e g) (h2:VGs X W es gs)
  (hs:(assignEach (e :: es) X.env).map (·.2)=assign e X.env :: (assignEach es X.env).map (·.2):=by rfl):VGs X W (e :: es) (zat g gs):=by
 obtain ⟨t,p1,s1⟩:=h1
 obtain ⟨u,p2,s2⟩:=h2
 refine ⟨_,zor p1 p2 hs,fun G ι Ω H σ ρ vs as D w r d h=>?_⟩
 cases as with
 | nil=>exact False.elim h
 | cons a as =>
  obtain ⟨x,xs,rfl,d1,d2⟩:=d.zcM
  refine ⟨x,xs,rfl,s1 G ι Ω H σ ρ x a { D with nx:=fun σ' H'=>u xs σ' H' D.nx } w r d1 ?_⟩
  simp only [zat,sSeq] at h
  revert h
  generalize g a ρ Ω=q
  intro h
  match q,h with
  | some (.nx,ρ1,Ω1),h=>exact fun σ' H' G' ι' x w' r'=>s2 G' ι' Ω1 H' σ' ρ1 xs as D w' r' (d2.ext x) (zbx.ext h x)
  | some (.bk,ρ1,Ω1),h=>exact h
  | some (.ct,ρ1,Ω1),h=>exact h
  | some (.ret a,ρ1,Ω1),h=>exact h
  | some (.exc a,ρ1,Ω1),h=>exact h
@[simp] def zcR (n:Nat) (gs:List A→MS):A→MS:=fun a ρ Ω=>match a with
 | .tup ds=>if ds.length=n then gs ds ρ Ω else none
 | _=>none
theorem zdH {es:List Expr} {k:Nat} {n:Nat} {gs:List A→MS} (hc:X.calm=true) (h:VGs X W es gs)
  (hn:(assignEach es X.env).length=n:=by rfl) (hst:(assignEach es X.env).findIdx? (·.1)=none:=by rfl):VG X W (.Tuple es k pos) (zcR n gs):=by
 obtain ⟨t,p,s⟩:=h
 refine ⟨_,zth hc p hn hst,fun G ι Ω H σ ρ v a D w r d h=>?_⟩
 unfold zcR at h
 cases a with
 | tup ds =>
  simp only at h
  by_cases hl:ds.length=n
  ·rw [if_pos hl] at h
   simp only [Den] at d
   obtain ⟨p,xs,rfl,h2,h3⟩:=d
   exact ⟨p,xs,rfl,SqT.of (w.sub _ _ h2),by rw [h3.length];exact hl,s G ι Ω H σ ρ xs ds D w r h3 h⟩
  ·rw [if_neg hl] at h;exact False.elim h
 | _=>exact False.elim h
@[simp] def setCell (o i v:A) (Ω:Sto):Option Sto:=match o,i with
 | .cel k, .int n=>match Ω[k]? with
  | some (.lst ds)=>match ixN ds.length n with
   | some j=>some (Ω.set k (.lst (ds.set j v)))
   | none=>none
  | _=>none
 | _,_=>none
@[simp] def zof (fo fi:Ev→Mo A):A→MS:=fun a ρ=>sM (fo ρ) ρ fun o=>sM (fi ρ) ρ fun i Ω=>match setCell o i a Ω with
 | some Ω'=>some (.nx,ρ,Ω')
 | none=>none
theorem zpx {o i:Expr} {fo fi:Ev→Mo A} (ho:VE X W o fo) (hi:VE X W i fi)
  (ha:∀ v,assign (.Subscript o i pos) X.env v=(do
   let ov ← holding [v] (eval o X.env)
   let iv ← holding [v,ov] (eval i X.env)
   standAt pos
   holding [v,ov,iv] (setItem ov iv v)
   release [v,ov,iv] []):=by intro _;rfl):VG X W (.Subscript o i pos) (zof fo fi):=by
 obtain ⟨t,p1,s1⟩:=ho
 obtain ⟨u,p2,s2⟩:=hi
 refine ⟨_,zsS p1 p2 set_list ha,fun G ι Ω H σ ρ v a D w r d h=>?_⟩
 refine s1 G ι Ω H σ ρ _ w r (zbx.sM h r fun x Ω1 v1 H1 G1 ι1 x1 w1 d1 h1=>?_)
 refine s2 G1 ι1 Ω1 H1 σ ρ _ w1 (r.ext x1) (zbx.sM h1 (r.ext x1) fun y Ω2 v2 H2 G2 ι2 x2 w2 d2 h2=>?_)
 unfold setCell at h2
 cases x with
 | cel k =>
  cases y with
  | int n =>
   simp only at h2
   cases e:Ω2[k]? with
   | none=>rw [e] at h2;exact False.elim h2
   | some c =>
    rw [e] at h2
    cases c with
    | lst ds =>
     simp only at h2
     cases e2:ixN ds.length n with
     | none=>rw [e2] at h2;exact False.elim h2
     | some j =>
      rw [e2] at h2
      have d1':=d1.ext x2
      simp only [Den] at d1' d2
      obtain ⟨p,rfl,hk⟩:=d1'
      obtain ⟨gg,xs,h5,h6⟩:=w2.cel k _ p e hk
      refine ⟨p,xs,n,j,rfl,d2,h5,by rw [h6.length];exact e2,?_⟩
      refine zja (w2.put (c := .lst (ds.set j a)) hk gg ⟨gg,_,zaw,?_⟩) (r.ext (x1.trans x2)) h2
      exact DenL.set (d.ext (x1.trans x2)) j h6
    | _=>exact False.elim h2
  | _=>exact False.elim h2
 | _=>exact False.elim h2
@[simp] def sAsg (fe:Ev→Mo A) (g:A→MS):MS:=fun ρ=>sM (fe ρ) ρ fun a Ω=>g a ρ Ω
theorem znj {K:PySem.W.Frag} {te:TE} {t:TG} {g:A→MS} (h1:Sim K (Den K) W te fe) (h2:SimG K W t g):SimS K W (tAsg te t) (sAsg fe g):=by
 intro G ι Ω H σ ρ D w r h
 exact h1 G ι Ω H σ ρ _ w r (zbx.sM h r fun a Ω1 v H1 G1 ι1 x1 w1 d1 h1=>h2 G1 ι1 Ω1 H1 σ ρ v a D w1 (r.ext x1) d1 h1)
theorem zhW {tg:Expr} {g:A→MS} (he:VE X W e fe) (hg:VG X W tg g) (hs:swapsWithSole [tg] e pos.line X.env=pure false:=by rfl) (hw:swappedStores [tg] e X.env=pure none:=by rfl)
  (h1:(assignEach [tg] X.env).map (·.2)=[assign tg X.env]:=by rfl):VS X W (.Assign [tg] e pos) (sAsg fe g):=by
 obtain ⟨t,p1,s1⟩:=he
 obtain ⟨u,p2,s2⟩:=hg
 exact ⟨_,zsP p1 p2 hs hw h1,znj s1 s2⟩
theorem zao {i:Nat} {x:Str} {pos':Pos} (hN:X.N.Nodup) (hi:X.N[i]? = some x) (hx:Loc X.env.scope x) (he:VE X W e fe) (hs:swapsWith e (some (.Name x pos')) pos.line X.env=pure false:=by rfl) (hf:X.fn x=true∨X.env.scope.names.lookup x=some .local:=by first | exact .inl rfl | exact .inr rfl | assumption) :
  VS X W (.Assign [.Name x pos'] e pos) (sAsg fe (gN i)):=by
 obtain ⟨t,p1,s1⟩:=he
 exact ⟨_,ztb hN hi hx p1 hs hf,znj s1 fun _ _ _ _ _ _ _ _ _ w r d h=>zja w (r.set i d) h⟩
structure Src where
 ds:List A
 ok:Sto→Prop
structure ItV (K:PySem.W.Frag) (G:Hp) (ι:List Addr) (J:It) (S:Src):Prop where
 go:∀ G' ι' Ω' H',Ext G ι G' ι'→Wd K G' ι' Ω' H'→S.ok Ω'→∀ i,i < S.ds.length→J.go i H'
 stop:∀ G' ι' Ω' H',Ext G ι G' ι'→Wd K G' ι' Ω' H'→S.ok Ω'→∀ i,S.ds.length ≤ i→J.stop i H'
 yld:∀ G' ι' Ω' H',Ext G ι G' ι'→Wd K G' ι' Ω' H'→S.ok Ω'→∀ i x H2 d,S.ds[i]? = some d→J.yld i H' x H2→∃ G2,Ext G' ι' G2 ι'∧Wd K G2 ι' Ω' H2∧Den K G2 ι' x d
def relI (K:PySem.W.Frag):Rl Src It:=fun G ι J S=>ItV K G ι J S
theorem ItV.ext {K:PySem.W.Frag} {G G1:Hp} {ι ι1:List Addr} {J:It} {S:Src} (h:ItV K G ι J S) (e:Ext G ι G1 ι1):ItV K G1 ι1 J S :=
 ⟨fun G' ι' Ω' H' x=>h.go G' ι' Ω' H' (e.trans x),fun G' ι' Ω' H' x=>h.stop G' ι' Ω' H' (e.trans x),fun G' ι' Ω' H' x=>h.yld G' ι' Ω' H' (e.trans x)⟩
def VI (X:Cx) (W:WX) (tg iter:Expr) (f:Ev→Mo Src):Prop:=∃ t,PI X tg iter t∧Sim X.K (relI X.K) W t f
open Classical in
noncomputable def fFor (ok:Sto→Prop) (g:A→MS) (b:MS):List A→MS
 | [],ρ,Ω=>if ok Ω then some (.nx,ρ,Ω) else none
 | x :: xs,ρ,Ω=>if ok Ω then (match g x ρ Ω with
  | some (.nx,ρ0,Ω0)=>(match b ρ0 Ω0 with
   | some (.nx,ρ1,Ω1)=>fFor ok g b xs ρ1 Ω1
   | some (.ct,ρ1,Ω1)=>fFor ok g b xs ρ1 Ω1
   | some (.bk,ρ1,Ω1)=>some (.nx,ρ1,Ω1)
   | r=>r)
  | some (.exc e,ρ0,Ω0)=>some (.exc e,ρ0,Ω0)
  | _=>none) else none
@[simp] noncomputable def sFor (fi:Ev→Mo Src) (g:A→MS) (b:MS):MS:=fun ρ=>sM (fi ρ) ρ fun S Ω=>fFor S.ok g b S.ds ρ Ω
theorem zp7 {K:PySem.W.Frag} {G:Hp} {ι:List Addr} {D:Ends} {ok:Sto→Prop} {g:A→MS} {b:MS} {xs:List A} {ρ:Ev} {Ω:Sto} (h:zbx K W G ι D (fFor ok g b xs ρ Ω)):ok Ω:=by
 cases xs with
 | nil =>
  unfold fFor at h
  by_cases hp:ok Ω
  ·exact hp
  ·rw [if_neg hp] at h;exact False.elim h
 | cons =>
  unfold fFor at h
  by_cases hp:ok Ω
  ·exact hp
  ·rw [if_neg hp] at h;exact False.elim h
theorem zqw {K:PySem.W.Frag} {wi:TI} {tg:TG} {tb:TS} {fi:Ev→Mo Src} {g:A→MS} {b:MS} (hi:Sim K (relI K) W wi fi) (hg:SimG K W tg g) (hb:SimS K W tb b):SimS K W (tFor wi tg tb) (sFor fi g b):=by
 intro G ι Ω H σ ρ D w r h
 refine hi G ι Ω H σ ρ _ w r (zbx.sM h r fun S Ω1 J H1 G1 ι1 x1 w1 j1 h1=>?_)
 refine ⟨fun i m σ' H'=>m=S.ds.length - i∧i ≤ S.ds.length∧∃ G' ι' Ω' ρ',Ext G1 ι1 G' ι'∧Wd K G' ι' Ω' H'∧EnvR K G' ι' σ' ρ'∧zbx K W G' ι' D (fFor S.ok g b (S.ds.drop i) ρ' Ω'),
  ⟨_,rfl,Nat.zero_le _,G1,ι1,Ω1,ρ,Ext.refl _ _,w1,r.ext x1,by simpa using h1⟩,?_⟩
 rintro i m σ' H' ⟨rfl,hil,G',ι',Ω',ρ',e',w',r',h'⟩
 have hok:=zp7 h'
 by_cases hlt:i < S.ds.length
 ·right
  refine ⟨j1.go G' ι' Ω' H' e' w' hok i hlt,fun σ2 H2=>∃ G2 ι2 Ω2 ρ2,Ext G1 ι1 G2 ι2∧Wd K G2 ι2 Ω2 H2∧EnvR K G2 ι2 σ2 ρ2∧zbx K W G2 ι2 D (fFor S.ok g b (S.ds.drop (i + 1)) ρ2 Ω2),fun σ2 H2 n=>?_,fun x H2 y=>?_⟩
  ·exact ⟨S.ds.length - (i + 1),by omega,rfl,hlt,n⟩
  ·obtain ⟨G2,e2,w2,d2⟩:=j1.yld G' ι' Ω' H' e' w' hok i x H2 S.ds[i] (List.getElem?_eq_getElem hlt) y
   rw [List.drop_eq_getElem_cons hlt] at h'
   unfold fFor at h'
   rw [if_pos hok] at h'
   refine hg G2 ι' Ω' H2 σ' ρ' x S.ds[i] { D with nx:=fun σ3 H3=>tb _ σ3 H3 } w2 (r'.ext e2) d2 ?_
   revert h'
   generalize g S.ds[i] ρ' Ω'=q
   intro h'
   match q,h' with
   | some (.nx,ρ3,Ω3),h' =>
    intro σ3 H3 G3 ι3 x3 w3 r3
    refine hb G3 ι3 Ω3 H3 σ3 ρ3 _ w3 r3 ?_
    simp only at h'
    revert h'
    generalize b ρ3 Ω3=q2
    intro h'
    match q2,h' with
    | some (.nx,ρ4,Ω4),h'=>exact fun σ4 H4 G4 ι4 x4 w4 r4=>⟨G4,ι4,Ω4,ρ4,(e'.trans (e2.trans x3)).trans x4,w4,r4,zbx.ext h' ((e2.trans x3).trans x4)⟩
    | some (.ct,ρ4,Ω4),h'=>exact fun σ4 H4 G4 ι4 x4 w4 r4=>⟨G4,ι4,Ω4,ρ4,(e'.trans (e2.trans x3)).trans x4,w4,r4,zbx.ext h' ((e2.trans x3).trans x4)⟩
    | some (.bk,ρ4,Ω4),h'=>exact fun σ4 H4 G4 ι4 x4 w4 r4=>h' σ4 H4 G4 ι4 ((e2.trans x3).trans x4) w4 r4
    | some (.ret a,ρ4,Ω4),h'=>exact fun σ4 H4 G4 ι4 x4 w4 r4=>h' σ4 H4 G4 ι4 ((e2.trans x3).trans x4) w4 r4
    | some (.exc a,ρ4,Ω4),h'=>exact fun σ4 H4 G4 ι4 x4 w4 r4=>h' σ4 H4 G4 ι4 ((e2.trans x3).trans x4) w4 r4
   | some (.exc a,ρ3,Ω3),h'=>exact fun σ4 H4 G4 ι4 x4 w4 r4=>h' σ4 H4 G4 ι4 (e2.trans x4) w4 r4
 ·have hie:i=S.ds.length:=by omega
  subst hie
  left
  rw [List.drop_length] at h'
  unfold fFor at h'
  rw [if_pos hok] at h'
  exact ⟨j1.stop G' ι' Ω' H' e' w' hok _ (Nat.le_refl _),zja w' r' h'⟩
theorem zdz {tg iter:Expr} {body:List Stmt} {fi:Ev→Mo Src} {g:A→MS} {b:MS} (hp:PassesOwn (model X.prog X.w) X.A X.env X.xe) (hc:X.calm=true) (hi:VI X W tg iter fi) (hg:VG X W tg g) (hb:VSs X W body b)
  (hs:∀ x,foldedSetIterable iter X.env x=pure x:=by intro _;rfl):VS X W (.For tg iter body [] pos) (sFor fi g b):=by
 obtain ⟨t1,p1,s1⟩:=hi
 obtain ⟨t2,p2,s2⟩:=hg
 obtain ⟨t3,p3,s3⟩:=hb
 exact ⟨_,zsG hp hc p1 p2 p3 hs,zqw s1 s2 s3⟩
def zdF (c:Ev→Mo Bool) (b:MS):Nat→MS
 | 0,_,_=>none
 | n + 1,ρ,Ω=>sM (c ρ) ρ (fun k Ω1=>if k then (match b ρ Ω1 with
   | some (.nx,ρ1,Ω2)=>zdF c b n ρ1 Ω2
   | some (.ct,ρ1,Ω2)=>zdF c b n ρ1 Ω2
   | some (.bk,ρ1,Ω2)=>some (.nx,ρ1,Ω2)
   | r=>r) else some (.nx,ρ,Ω1)) Ω
theorem znu {K:PySem.W.Frag} {tc:TT} {tb:TS} {c:Ev→Mo Bool} {b:MS} (n:Ev→Sto→Nat) (hc:Sim K relB W tc c) (hb:SimS K W tb b):SimS K W (zpG tc tb) (fun ρ Ω=>zdF c b (n ρ Ω) ρ Ω):=by
 intro G ι Ω H σ ρ D w r h
 refine ⟨fun m σ' H'=>∃ G' ι' Ω' ρ',Ext G ι G' ι'∧Wd K G' ι' Ω' H'∧EnvR K G' ι' σ' ρ'∧zbx K W G' ι' D (zdF c b m ρ' Ω'),⟨_,G,ι,Ω,ρ,Ext.refl _ _,w,r,h⟩,?_⟩
 rintro m σ' H' ⟨G',ι',Ω',ρ',e',w',r',h'⟩
 cases m with
 | zero=>exact False.elim h'
 | succ m =>
  unfold zdF at h'
  refine hc G' ι' Ω' H' σ' ρ' _ w' r' (zbx.sM h' r' fun k Ω1 k' H1 G1 ι1 x1 w1 d1 h1=>?_)
  cases (show k'=k from d1)
  cases k with
  | false=>exact zja w1 (r'.ext x1) h1
  | true =>
   refine ⟨fun σ2 H2=>∃ G2 ι2 Ω2 ρ2,Ext G ι G2 ι2∧Wd K G2 ι2 Ω2 H2∧EnvR K G2 ι2 σ2 ρ2∧zbx K W G2 ι2 D (zdF c b m ρ2 Ω2),fun σ2 H2 q=>⟨m,Nat.lt_succ_self _,q⟩,?_⟩
   refine hb G1 ι1 Ω1 H1 σ' ρ' _ w1 (r'.ext x1) ?_
   simp only [if_true] at h1
   revert h1
   generalize b ρ' Ω1=q
   intro h1
   match q,h1 with
   | some (.nx,ρ4,Ω4),h1=>exact fun σ4 H4 G4 ι4 x4 w4 r4=>⟨G4,ι4,Ω4,ρ4,(e'.trans x1).trans x4,w4,r4,zbx.ext h1 x4⟩
   | some (.ct,ρ4,Ω4),h1=>exact fun σ4 H4 G4 ι4 x4 w4 r4=>⟨G4,ι4,Ω4,ρ4,(e'.trans x1).trans x4,w4,r4,zbx.ext h1 x4⟩
   | some (.bk,ρ4,Ω4),h1=>exact fun σ4 H4 G4 ι4 x4 w4 r4=>h1 σ4 H4 G4 ι4 x4 w4 r4
   | some (.ret a,ρ4,Ω4),h1=>exact fun σ4 H4 G4 ι4 x4 w4 r4=>h1 σ4 H4 G4 ι4 x4 w4 r4
   | some (.exc a,ρ4,Ω4),h1=>exact fun σ4 H4 G4 ι4 x4 w4 r4=>h1 σ4 H4 G4 ι4 x4 w4 r4
theorem zpa {ce:Expr} {body:List Stmt} {c:Ev→Mo Bool} {b:MS} (n:Ev→Sto→Nat) (hp:PassesOwn (model X.prog X.w) X.A X.env X.xe) (hc:VT X W ce c) (hb:VSs X W body b):VS X W (.While ce body [] pos) (fun ρ Ω=>zdF c b (n ρ Ω) ρ Ω):=by
 obtain ⟨t1,p1,s1⟩:=hc
 obtain ⟨t2,p2,s2⟩:=hb
 exact ⟨_,zop hp p1 p2,znu n s1 s2⟩
@[simp] def srcOf (a:A) (ds:List A):Src:=⟨ds,fun Ω=>zaF Ω a=some ds⟩
theorem zj1 {Ω:Sto} {a:A} {ds:List A} (h:zaF Ω a=some ds) (ha:∀ es,a ≠ .tup es):zaH Ω a=some ds:=by
 cases a with
 | tup es=>exact absurd rfl (ha es)
 | _=>exact h
theorem zs0 {tg l:Expr} {tl:TE} (hl:PE X l tl):PI X tg l (fun σ H R=>tl σ H fun x H1=>∃ a,x = .ref a∧(((∃ xs,SqL X.K H1 a xs)∧R (Itl X.K a) H1)∨((∃ xs,SqT X.K H1 a xs)∧R (Itt X.K a) H1))):=by
 intro pins s σ H R I h
 refine thn (hl pins s σ H _ I h) fun v s1 ⟨x,H1,I1,r1,q1⟩=>?_
 obtain ⟨a,e,q⟩:=q1
 subst e
 cases r1
 rcases q with ⟨⟨xs,hq⟩,q⟩ | ⟨⟨xs,hq⟩,q⟩
 ·obtain ⟨its,rv,p,hz⟩:=I1.list hq
  refine wpAny_pyIter_list p.isList ?_
  refine ⟨s1.heap.objs.size,[s1.heap.objs.size],_,_,H1,rfl,I1.kept (t':=s1.toks) fun b o e=>Heap.get?_push_of_some _ e,zoa a _,⟨_,Heap.get?_push_size _ rfl,rfl,rfl⟩,fun b hb=>?_,q⟩
  have e:b=s1.heap.objs.size:=by simpa using hb
  subst e
  exact I1.fpOk (Nat.le_refl _) (I1.hok.fresh (Nat.le_refl _))
 ·obtain ⟨its,rv,p,hz⟩:=I1.tuple hq
  refine wpAny_pyIter_tuple (show s1.heap.IsTuple a its.toArray from p) ?_
  refine ⟨s1.heap.objs.size,[s1.heap.objs.size],_,_,H1,rfl,I1.kept (t':=s1.toks) fun b o e=>Heap.get?_push_of_some _ e,zmn a _,⟨_,Heap.get?_push_size _ rfl,rfl,rfl⟩,fun b hb=>?_,q⟩
  have e:b=s1.heap.objs.size:=by simpa using hb
  subst e
  exact I1.fpOk (Nat.le_refl _) (I1.hok.fresh (Nat.le_refl _))
@[simp] def vSeq (f:Ev→Mo A):Ev→Mo Src:=fun ρ=>mb (f ρ) fun a Ω=>match zaF Ω a with
 | some ds=>some (.ok (srcOf a ds),Ω)
 | none=>none
theorem zre {K:PySem.W.Frag} {G:Hp} {ι:List Addr} {p:Addr} {a:A} {ds:List A} (d:Den K G ι (.ref p) a) (ha:∀ es,a ≠ .tup es):ItV K G ι (Itl K p) (srcOf a ds):=by
 have key:∀ G' ι' Ω' H',Ext G ι G' ι'→Wd K G' ι' Ω' H'→zaF Ω' a=some ds→∃ xs,SqL K H' p xs∧DenL K G' ι' xs ds:=fun G' ι' Ω' H' e w h=>by
  obtain ⟨q,xs,h1,h2,h3⟩:=zcI w (d.ext e) (zj1 h ha)
  cases h1
  exact ⟨xs,h2,h3⟩
 refine ⟨fun G' ι' Ω' H' e w h i hi=>?_,fun G' ι' Ω' H' e w h i hi=>?_,fun G' ι' Ω' H' e w h i x H2 y hy hd=>?_⟩
 ·obtain ⟨xs,h2,h3⟩:=key G' ι' Ω' H' e w h
  have hl:i < xs.length:=by rw [h3.length];exact hi
  exact ⟨xs,xs[i],h2,List.getElem?_eq_getElem hl⟩
 ·obtain ⟨xs,h2,h3⟩:=key G' ι' Ω' H' e w h
  exact ⟨xs,h2,by rw [h3.length];exact hi⟩
 ·obtain ⟨xs,h2,h3⟩:=key G' ι' Ω' H' e w h
  obtain ⟨e1,e2⟩:=hd
  subst e1
  obtain ⟨z,q1,q2⟩:=h3.get hy
  rw [e2 xs h2] at q1
  cases q1
  exact ⟨G',Ext.refl _ _,w,q2⟩
theorem zqb {K:PySem.W.Frag} {G:Hp} {ι:List Addr} {p:Addr} {ds es:List A} (d:Den K G ι (.ref p) (.tup es)):ItV K G ι (Itt K p) (srcOf (.tup es) ds):=by
 have key:∀ G' ι' Ω' H',Ext G ι G' ι'→Wd K G' ι' Ω' H'→zaF Ω' (.tup es)=some ds→∃ xs,SqT K H' p xs∧DenL K G' ι' xs ds:=fun G' ι' Ω' H' e w h=>by
  simp only [zaF,Option.some.injEq] at h
  subst h
  have d':=d.ext e
  simp only [Den] at d'
  obtain ⟨q,xs,h1,h2,h3⟩:=d'
  cases h1
  exact ⟨xs,SqT.of (w.sub _ _ h2),h3⟩
 refine ⟨fun G' ι' Ω' H' e w h i hi=>?_,fun G' ι' Ω' H' e w h i hi=>?_,fun G' ι' Ω' H' e w h i x H2 y hy hd=>?_⟩
 ·obtain ⟨xs,h2,h3⟩:=key G' ι' Ω' H' e w h
  have hl:i < xs.length:=by rw [h3.length];exact hi
  exact ⟨xs,xs[i],h2,List.getElem?_eq_getElem hl⟩
 ·obtain ⟨xs,h2,h3⟩:=key G' ι' Ω' H' e w h
  exact ⟨xs,h2,by rw [h3.length];exact hi⟩
 ·obtain ⟨xs,h2,h3⟩:=key G' ι' Ω' H' e w h
  obtain ⟨e1,e2⟩:=hd
  subst e1
  obtain ⟨z,q1,q2⟩:=h3.get hy
  rw [e2 xs h2] at q1
  cases q1
  exact ⟨G',Ext.refl _ _,w,q2⟩
theorem zfT {tg l:Expr} {fe:Ev→Mo A} (h:VE X W l fe):VI X W tg l (vSeq fe):=by
 obtain ⟨t,p,s⟩:=h
 refine ⟨_,zs0 p,fun G ι Ω H σ ρ R w r h=>?_⟩
 refine s G ι Ω H σ ρ _ w r (Post.mb h fun a Ω1 v H1 G1 ι1 x1 w1 d1 h1=>?_)
 cases e:zaF Ω1 a with
 | none=>simp only [e] at h1;exact False.elim h1
 | some ds =>
  simp only [e] at h1
  obtain ⟨q,xs,h2,h3,h4⟩:=zfO w1 d1 e
  subst h2
  refine ⟨q,rfl,?_⟩
  cases a with
  | tup es =>
   right
   simp only [Den] at d1
   obtain ⟨q',xs',e1,e2,e3⟩:=id d1
   cases e1
   exact ⟨⟨_,SqT.of (w1.sub _ _ e2)⟩,h1 _ H1 G1 ι1 (Ext.refl _ _) w1 (zqb (by simpa only [Den] using d1))⟩
  | _ =>
   left
   obtain ⟨q',xs',e1,e2,e3⟩:=zcI w1 d1 (zj1 e (by intro _ z;cases z))
   cases e1
   exact ⟨⟨_,e2⟩,h1 _ H1 G1 ι1 (Ext.refl _ _) w1 (zre d1 (by intro _ z;cases z))⟩
@[simp] def zej (lo:Int) (n:Nat):Src:=⟨(List.range n).map fun (i:Nat)=>A.int (lo + (i:Int)),fun _=>True⟩
def za6 (i:Int):Prop:=-(2 ^ 62) ≤ i∧i < 2 ^ 62
instance (i:Int):Decidable (za6 i):=by unfold za6;infer_instance
theorem zmF {K:PySem.W.Frag} {G:Hp} {ι:List Addr} {lo:Int} {n:Nat}:ItV K G ι (Itr lo n) (zej lo n):=by
 refine ⟨fun _ _ _ _ _ _ _ i hi=>show i < n by simpa [zej] using hi,fun _ _ _ _ _ _ _ i hi=>show n ≤ i by simpa [zej] using hi,fun G' ι' Ω' H' e w h i x H2 y hy hd=>?_⟩
 obtain ⟨e1,e2⟩:=hd
 subst e1 e2
 refine ⟨G',Ext.refl _ _,w,?_⟩
 simp only [zej,List.getElem?_map] at hy
 cases e:(List.range n)[i]? with
 | none=>rw [e] at hy;cases hy
 | some j =>
  rw [e] at hy
  cases hy
  have:=(List.getElem?_eq_some_iff.mp e).2
  simp at this
  subst this
  simp only [Den]
@[simp] def zhg (f:Ev→Mo (List A)):Ev→Mo Src:=fun ρ=>mb (f ρ) fun as=>match as with
 | [.int j]=>mb (chk (za6 j)) fun _=>ret (zej 0 j.toNat)
 | _=>stuck
@[simp] def zmb (f:Ev→Mo (List A)):Ev→Mo Src:=fun ρ=>mb (f ρ) fun as=>match as with
 | [.int i, .int j]=>mb (chk (za6 i∧za6 j)) fun _=>ret (zej i (j - i).toNat)
 | _=>stuck
theorem zhG {tg a:Expr} {fs:Ev→Mo (List A)} {p:Pos} (hg:Gl X "range") (hm:X.mg "range" = none) (ha:VA X W [a] fs) (hs:starEach [a] X.env=[(false,eval a X.env)]:=by rfl):VI X W tg (.Call (.Name "range" p) [a] [] pos) (zhg fs):=by
 obtain ⟨t,p,s⟩:=ha
 refine ⟨_,zmJ hg hm p hs,fun G ι Ω H σ ρ R w r h=>?_⟩
 refine s G ι Ω H σ ρ _ w r (Post.mb h fun as Ω1 vs H1 G1 ι1 x1 w1 d1 h1=>?_)
 split at h1
 ·rename_i j
  obtain ⟨v,t,rfl,q1,q2⟩:=d1.zcM
  rw [zca] at q2;subst q2
  simp only [Den] at q1;subst q1
  obtain ⟨hc,h2⟩:=Post.chk h1
  exact ⟨j,rfl,hc.1,hc.2,zbk w1 zmF h2⟩
 ·exact False.elim h1
theorem zhz {tg a b:Expr} {fs:Ev→Mo (List A)} {p:Pos} (hg:Gl X "range") (hm:X.mg "range" = none) (ha:VA X W [a,b] fs) (hs:starEach [a,b] X.env=[(false,eval a X.env),(false,eval b X.env)]:=by rfl) (hs2:starEach [b] X.env=[(false,eval b X.env)]:=by rfl):VI X W tg (.Call (.Name "range" p) [a,b] [] pos) (zmb fs):=by
 obtain ⟨t,p,s⟩:=ha
 refine ⟨_,zmC hg hm p hs hs2,fun G ι Ω H σ ρ R w r h=>?_⟩
 refine s G ι Ω H σ ρ _ w r (Post.mb h fun as Ω1 vs H1 G1 ι1 x1 w1 d1 h1=>?_)
 split at h1
 ·rename_i i j
  obtain ⟨v,t,rfl,q1,q2⟩:=d1.zcM
  obtain ⟨v',t',rfl,q3,q4⟩:=q2.zcM
  rw [zca] at q4;subst q4
  simp only [Den] at q1 q3;subst q1 q3
  obtain ⟨hc,h2⟩:=Post.chk h1
  exact ⟨i,j,rfl,⟨hc.1.1,hc.1.2,hc.2.1,hc.2.2⟩,zbk w1 zmF h2⟩
 ·exact False.elim h1
end
end V2
namespace V2
open PySem PySem.Spec PyProof.Rows L2
section
variable {X:Cx} {W:WX} {e a b:Expr} {es:List Expr} {pos:Pos} {fa fb:Ev→Mo A} {fs:Ev→Mo (List A)}
@[simp] def gIx (a i:A):Mo A:=fun Ω=>match zaF Ω a,i with
 | some ds, .int n=>match atI ds n with
  | some d=>some (.ok d,Ω)
  | none=>none
 | _,_=>none
theorem zqr {K:PySem.W.Frag} {G:Hp} {ι:List Addr} {xs:List V} {ds:List A} {n:Int} {d:A} (h:DenL K G ι xs ds) (e:atI ds n=some d):∃ x,atI xs n=some x∧Den K G ι x d:=by
 unfold atI at e ⊢
 rw [h.length]
 cases q:ixN ds.length n with
 | none=>rw [q] at e;cases e
 | some j=>rw [q] at e;exact h.get e
theorem zas (ha:VE X W a fa) (hb:VE X W b fb) (hs:zn0 b):VE X W (.Subscript a b pos) (vOp gIx fa fb):=by
 obtain ⟨t,p1,s1⟩:=ha
 obtain ⟨u,p2,s2⟩:=hb
 refine ⟨_,zuc zsw p1 p2 hs,zlS ?_ s1 s2⟩
 intro G ι Ω H σ x y a i Q w d1 d2 h
 unfold gIx at h
 split at h
 ·rename_i ds n e1
  split at h
  ·rename_i d e
   simp only [Den] at d2
   have fin:∀ v,Den X.K G ι v d→Q v H:=fun v hv=>h v H G ι (Ext.refl _ _) w hv
   obtain ⟨p,xs,rfl,hq,hd⟩:=zfO w d1 e1
   obtain ⟨v,q1,q2⟩:=zqr hd e
   rcases hq with hq | hq
   ·exact .inl ⟨p,xs,n,v,rfl,d2,hq,q1,fin v q2⟩
   ·exact .inr (.inl ⟨p,xs,n,v,rfl,d2,hq,q1,fin v q2⟩)
  ·exact False.elim h
 ·exact False.elim h
def VO (X:Cx) (W:WX) (e:Option Expr) (f:Ev→Mo (Option Int)):Prop:=∃ t,PO X e t∧Sim X.K (fun _ _ o o'=>o=o') W t f
theorem zno:VO X W none (fun _=>ret none):=⟨_,zqQ,fun _ _ _ _ _ _ _ w _ q=>zbk w rfl q⟩
@[simp] def zhI (f:Ev→Mo A):Ev→Mo (Option Int):=fun ρ=>mb (f ρ) fun x=>match x with
 | .int i=>ret (some i)
 | _=>stuck
theorem zeK (h:VE X W e fa):VO X W (some e) (zhI fa):=by
 obtain ⟨t,p,s⟩:=h
 refine ⟨_,zqD p,fun G ι Ω H σ ρ Q w r h=>?_⟩
 refine s G ι Ω H σ ρ _ w r (Post.mb h fun x Ω1 v H1 G1 ι1 x1 w1 d1 h1=>?_)
 cases x with
 | int i=>simp only [Den] at d1;exact ⟨i,d1,zbk w1 rfl h1⟩
 | _=>exact False.elim h1
def cutA (ds:List A) (lo hi:Option Int):List A:=(ds.drop (HT.sIx ds.length 0 lo)).take (HT.sIx ds.length ds.length hi - HT.sIx ds.length 0 lo)
theorem znR {K:PySem.W.Frag} {G:Hp} {ι:List Addr} {xs:List V} {ds:List A} (h:DenL K G ι xs ds) (lo hi:Option Int):DenL K G ι (cutV xs lo hi) (cutA ds lo hi):=by
 unfold cutV cutA
 rw [h.length]
 exact (h.drop _).take _
@[simp] def gSl (c:Bool) (a:A) (lo hi:Option Int):Mo A:=fun Ω=>match a with
 | .tup ds=>if HT.sIx ds.length 0 lo=0∧HT.sIx ds.length ds.length hi=ds.length then none else some (.ok (.tup (cutA ds lo hi)),Ω)
 | a=>match zaH Ω a with
  | some ds=>mkL c (cutA ds lo hi) Ω
  | none=>none
@[simp] def vSl (c:Bool) (f:Ev→Mo A) (l h:Ev→Mo (Option Int)):Ev→Mo A:=fun ρ=>mb (f ρ) fun a=>mb (l ρ) fun lo=>mb (h ρ) fun hi=>gSl c a lo hi
theorem zfX (c:Bool) {lo hi:Option Expr} {fl fh:Ev→Mo (Option Int)} {p2:Pos} (he:VE X W e fa) (hl:VO X W lo fl) (hh:VO X W hi fh):VE X W (.Subscript e (.Slice lo hi none p2) pos) (vSl c fa fl fh):=by
 obtain ⟨t,p1,s1⟩:=he
 obtain ⟨u,p2,s2⟩:=hl
 obtain ⟨u',p3,s3⟩:=hh
 refine ⟨_,zpn (zqd.or zsR) p1 p2 p3,fun G ι Ω H σ ρ Q w r h=>?_⟩
 refine s1 G ι Ω H σ ρ _ w r (Post.mb h fun x Ω1 v H1 G1 ι1 x1 w1 d1 h1=>?_)
 refine s2 G1 ι1 Ω1 H1 σ ρ _ w1 (r.ext x1) (Post.mb h1 fun o Ω2 o' H2 G2 ι2 x2 w2 d2 h2=>?_)
 cases (show o'=o from d2)
 refine s3 G2 ι2 Ω2 H2 σ ρ _ w2 ((r.ext x1).ext x2) (Post.mb h2 fun k Ω3 k' H3 G3 ι3 x3 w3 d3 h3=>?_)
 cases (show k'=k from d3)
 have d:=d1.ext (x2.trans x3)
 unfold gSl at h3
 cases x with
 | tup ds =>
  simp only at h3
  split at h3
  ·exact False.elim h3
  ·rename_i hn
   simp only [Den] at d
   obtain ⟨p,xs,rfl,q2,q3⟩:=d
   exact .inr ⟨p,xs,rfl,SqT.of (w3.sub _ _ q2),by rw [q3.length];exact hn,fun l hl=>znh w3 hl (znR q3 o k) h3⟩
 | _ =>
  simp only at h3
  split at h3
  ·rename_i ds e
   obtain ⟨p,xs,rfl,q2,q3⟩:=zcI w3 d e
   exact .inl ⟨p,xs,rfl,q2,fun l hl=>zhA w3 hl (znR q3 o k) h3⟩
  ·exact False.elim h3
def zs4 (K:PySem.W.Frag) (W:WX) (r:List V→Hp→VK→Prop) (g:List A→Mo A):Prop :=
 ∀ G ι Ω H σ xs as Q,Wd K G ι Ω H→DenL K G ι xs as→Post K (Den K) W G ι σ Q (g as Ω)→r xs H Q
def zew (X:Cx) (W:WX) (f:Value) (g:List A→Mo A):Prop:=∃ r,zfo X f r∧zs4 X.K W r g
@[simp] def vCl (g:List A→Mo A) (f:Ev→Mo (List A)):Ev→Mo A:=fun ρ=>mb (f ρ) g
theorem zpz {K:PySem.W.Frag} {r:List V→Hp→VK→Prop} {g:List A→Mo A} {t:TA} (hg:zs4 K W r g) (h:Sim K (DenL K) W t fs):Sim K (Den K) W (tCB r t) (vCl g fs):=by
 intro G ι Ω H σ ρ Q w q h2
 exact h G ι Ω H σ ρ _ w q (Post.mb h2 fun as Ω1 vs H1 G1 ι1 x1 w1 d1 h1=>hg G1 ι1 Ω1 H1 σ vs as Q w1 d1 h1)
theorem zaL {id:String} {x:Str} {g:List A→Mo A} {p:Pos} (hc:zew X W (.builtin id) g) (hg:Gl X x) (hm:X.mg x=none) (hv:bootBuiltins x=some (.builtin id)) (ha:VA X W (e :: es) fs) (hn:x ≠ "__name__":=by decide) (hdb:(x == ("__debug__" : Str))=false:=by decide)
  (he:starEach (e :: es) X.env=(false,eval e X.env) :: starEach es X.env:=by rfl) (hpl:(backTo pos (starEach es X.env)).any (·.1)=false:=by rfl):VE X W (.Call (.Name x p) (e :: es) [] pos) (vCl g fs):=by
 obtain ⟨r,c1,c2⟩:=hc
 obtain ⟨t,p1,s1⟩:=ha
 exact ⟨_,zoZ c1 hg hm hv p1 hn hdb he hpl,zpz c2 s1⟩
theorem zdX {T:String} {x:Str} {g:List A→Mo A} {p:Pos} (hc:zew X W (.type T) g) (hg:Gl X x) (hm:X.mg x=none) (hv:bootBuiltins x=some (.type T)) (ha:VA X W (e :: es) fs) (hn:x ≠ "__name__":=by decide) (hdb:(x == ("__debug__" : Str))=false:=by decide)
  (he:starEach (e :: es) X.env=(false,eval e X.env) :: starEach es X.env:=by rfl) (hpl:(backTo pos (starEach es X.env)).any (·.1)=false:=by rfl):VE X W (.Call (.Name x p) (e :: es) [] pos) (vCl g fs):=by
 obtain ⟨r,c1,c2⟩:=hc
 obtain ⟨t,p1,s1⟩:=ha
 exact ⟨_,zmI c1 hg hm hv p1 hn hdb he hpl,zpz c2 s1⟩
theorem den1 {K:PySem.W.Frag} {G:Hp} {ι:List Addr} {xs:List V} {d:A} (h:DenL K G ι xs [d]):∃ x,xs=[x]∧Den K G ι x d:=by
 obtain ⟨x,r,rfl,h1,h2⟩:=h.zcM
 rw [zca] at h2;subst h2
 exact ⟨x,rfl,h1⟩
theorem den2 {K:PySem.W.Frag} {G:Hp} {ι:List Addr} {xs:List V} {d d':A} (h:DenL K G ι xs [d,d']):∃ x y,xs=[x,y]∧Den K G ι x d∧Den K G ι y d':=by
 obtain ⟨x,r,rfl,h1,h2⟩:=h.zcM
 obtain ⟨y,rfl,h3⟩:=den1 h2
 exact ⟨x,y,rfl,h1,h3⟩
@[simp] def gLen (as:List A):Mo A:=fun Ω=>match as with
 | [a]=>(match zaF Ω a with
  | some ds=>some (.ok (.int ds.length),Ω)
  | none=>none)
 | _=>none
theorem zfm:zew X W (.builtin "len") gLen:=by
 refine ⟨_,zkf,?_⟩
 intro G ι Ω H σ xs as Q w d h
 unfold gLen at h
 split at h
 ·rename_i a
  split at h
  ·rename_i ds e
   obtain ⟨x,rfl,d1⟩:=den1 d
   obtain ⟨p,ys,rfl,h2,h3⟩:=zfO w d1 e
   exact ⟨p,ys,rfl,h2,h _ H G ι (Ext.refl _ _) w (by simp only [Den,h3.length])⟩
  ·exact False.elim h
 ·exact False.elim h
@[simp] def zj9 (as:List A):Mo A:=match as with
 | [.int i, .int j]=>ret (.int (max i j))
 | _=>stuck
@[simp] def zqU (as:List A):Mo A:=match as with
 | [.int i, .int j]=>ret (.int (min i j))
 | _=>stuck
theorem zju (hc:X.calm=true):zew X W (.builtin "max") zj9:=by
 refine ⟨_,znL hc,?_⟩
 intro G ι Ω H σ xs as Q w d h
 unfold zj9 at h
 split at h
 ·rename_i i j
  obtain ⟨x,y,rfl,d1,d2⟩:=den2 d
  simp only [Den] at d1 d2;subst d1 d2
  refine ⟨i,j,rfl,?_⟩
  have e:(if j > i then j else i)=max i j:=by split <;> omega
  rw [e]
  exact zbk w (by simp only [Den]) h
 ·exact False.elim h
theorem zsj (hc:X.calm=true):zew X W (.builtin "min") zqU:=by
 refine ⟨_,zm0 hc,?_⟩
 intro G ι Ω H σ xs as Q w d h
 unfold zqU at h
 split at h
 ·rename_i i j
  obtain ⟨x,y,rfl,d1,d2⟩:=den2 d
  simp only [Den] at d1 d2;subst d1 d2
  refine ⟨i,j,rfl,?_⟩
  have e:(if j < i then j else i)=min i j:=by split <;> omega
  rw [e]
  exact zbk w (by simp only [Den]) h
 ·exact False.elim h
def intsOf:List A→Option (List Int)
 | []=>some []
 | .int i :: r=>(intsOf r).map (i :: ·)
 | _=>none
theorem zhC {K:PySem.W.Frag} {G:Hp} {ι:List Addr}:∀ {ds:List A} {xs:List V} {ns:List Int},intsOf ds=some ns→DenL K G ι xs ds→xs=ns.map V.int
 | [],xs,ns,h,d=>by
  simp only [intsOf,Option.some.injEq] at h;subst h
  rw [zca] at d;subst d;rfl
 | a :: ds,xs,ns,h,d=>by
  obtain ⟨x,t,rfl,d1,d2⟩:=d.zcM
  cases a with
  | int i =>
   simp only [intsOf,Option.map_eq_some_iff] at h
   obtain ⟨ms,h1,rfl⟩:=h
   simp only [Den] at d1;subst d1
   rw [zhC h1 d2];rfl
  | _=>simp [intsOf] at h
theorem zgs (ns:List Int):intsOf (ns.map A.int)=some ns:=by
 induction ns with
 | nil=>rfl
 | cons n ns ih=>simp [intsOf,ih]
@[simp] def gSum (as:List A):Mo A:=fun Ω=>match as with
 | [a]=>(match (zaH Ω a).bind intsOf with
  | some ns=>some (.ok (.int ns.sum),Ω)
  | none=>none)
 | _=>none
theorem zr8 (hc:X.calm=true):zew X W (.builtin "sum") gSum:=by
 refine ⟨_,zpm hc,?_⟩
 intro G ι Ω H σ xs as Q w d h
 unfold gSum at h
 split at h
 ·rename_i a
  split at h
  ·rename_i ns e
   obtain ⟨x,rfl,d1⟩:=den1 d
   rw [Option.bind_eq_some_iff] at e
   obtain ⟨ds,e1,e2⟩:=e
   obtain ⟨p,ys,rfl,h2,h3⟩:=zcI w d1 e1
   rw [zhC e2 h3] at h2
   exact ⟨p,ns,rfl,h2,h _ H G ι (Ext.refl _ _) w (by simp only [Den])⟩
  ·exact False.elim h
 ·exact False.elim h
@[simp] def zgQ (c:Bool) (as:List A):Mo A:=fun Ω=>match as with
 | [a]=>(match zaF Ω a with
  | some ds=>mkL c ds Ω
  | none=>none)
 | _=>none
theorem zlg (c:Bool):zew X W (.type "list") (zgQ c):=by
 refine ⟨_,zjO,?_⟩
 intro G ι Ω H σ xs as Q w d h
 unfold zgQ at h
 split at h
 ·rename_i a
  split at h
  ·rename_i ds e
   obtain ⟨x,rfl,d1⟩:=den1 d
   obtain ⟨p,ys,rfl,h2,h3⟩:=zfO w d1 e
   exact ⟨p,ys,rfl,h2,fun l hl=>zhA w hl h3 h⟩
  ·exact False.elim h
 ·exact False.elim h
def tyA (Ω:Sto):A→Option String
 | .int _=>some "int"
 | .bl _=>some "bool"
 | .str _=>some "str"
 | .non=>some "NoneType"
 | .tup _=>some "tuple"
 | .lst _=>some "list"
 | .cel k=>match Ω[k]? with
  | some (.lst _)=>some "list"
  | some (.dct _)=>some "dict"
  | _=>none
 | _=>none
theorem zig (K:PySem.W.Frag):PySem.W.kitOne K (.type "int") (.type "int")=some true:=by unfold PySem.W.kitOne;rw [if_pos (beq_self_eq_true _)]
theorem zhj (K:PySem.W.Frag):PySem.W.kitOne K (.type "bool") (.type "int")=some true:=by kernel_rfl
theorem zh7 (K:PySem.W.Frag):PySem.W.kitOne K (.type "str") (.type "int")=some false:=by kernel_rfl
theorem zeQ (K:PySem.W.Frag):PySem.W.kitOne K (.type "NoneType") (.type "int")=some false:=by kernel_rfl
theorem zgF (K:PySem.W.Frag):PySem.W.kitOne K (.type "tuple") (.type "int")=some false:=by kernel_rfl
theorem zhl (K:PySem.W.Frag):PySem.W.kitOne K (.type "list") (.type "int")=some false:=by kernel_rfl
theorem zhS (K:PySem.W.Frag):PySem.W.kitOne K (.type "int") (.type "bool")=some false:=by kernel_rfl
theorem zgy (K:PySem.W.Frag):PySem.W.kitOne K (.type "bool") (.type "bool")=some true:=by unfold PySem.W.kitOne;rw [if_pos (beq_self_eq_true _)]
theorem zhk (K:PySem.W.Frag):PySem.W.kitOne K (.type "str") (.type "bool")=some false:=by kernel_rfl
theorem zek (K:PySem.W.Frag):PySem.W.kitOne K (.type "NoneType") (.type "bool")=some false:=by kernel_rfl
theorem zfK (K:PySem.W.Frag):PySem.W.kitOne K (.type "tuple") (.type "bool")=some false:=by kernel_rfl
theorem zgL (K:PySem.W.Frag):PySem.W.kitOne K (.type "list") (.type "bool")=some false:=by kernel_rfl
theorem zgD (K:PySem.W.Frag):PySem.W.kitOne K (.type "int") (.type "tuple")=some false:=by kernel_rfl
theorem zfI (K:PySem.W.Frag):PySem.W.kitOne K (.type "bool") (.type "tuple")=some false:=by kernel_rfl
theorem zgG (K:PySem.W.Frag):PySem.W.kitOne K (.type "str") (.type "tuple")=some false:=by kernel_rfl
theorem zdZ (K:PySem.W.Frag):PySem.W.kitOne K (.type "NoneType") (.type "tuple")=some false:=by kernel_rfl
theorem zfq (K:PySem.W.Frag):PySem.W.kitOne K (.type "tuple") (.type "tuple")=some true:=by unfold PySem.W.kitOne;rw [if_pos (beq_self_eq_true _)]
theorem zfJ (K:PySem.W.Frag):PySem.W.kitOne K (.type "list") (.type "tuple")=some false:=by kernel_rfl
theorem zhi (K:PySem.W.Frag):PySem.W.kitOne K (.type "int") (.type "list")=some false:=by kernel_rfl
theorem zgK (K:PySem.W.Frag):PySem.W.kitOne K (.type "bool") (.type "list")=some false:=by kernel_rfl
theorem zhf (K:PySem.W.Frag):PySem.W.kitOne K (.type "str") (.type "list")=some false:=by kernel_rfl
theorem zel (K:PySem.W.Frag):PySem.W.kitOne K (.type "NoneType") (.type "list")=some false:=by kernel_rfl
theorem zfY (K:PySem.W.Frag):PySem.W.kitOne K (.type "tuple") (.type "list")=some false:=by kernel_rfl
theorem zgM (K:PySem.W.Frag):PySem.W.kitOne K (.type "list") (.type "list")=some true:=by unfold PySem.W.kitOne;rw [if_pos (beq_self_eq_true _)]
theorem zih (K:PySem.W.Frag):PySem.W.kitOne K (.type "int") (.type "str")=some false:=by kernel_rfl
theorem zhD (K:PySem.W.Frag):PySem.W.kitOne K (.type "bool") (.type "str")=some false:=by kernel_rfl
theorem zii (K:PySem.W.Frag):PySem.W.kitOne K (.type "str") (.type "str")=some true:=by unfold PySem.W.kitOne;rw [if_pos (beq_self_eq_true _)]
theorem zes (K:PySem.W.Frag):PySem.W.kitOne K (.type "NoneType") (.type "str")=some false:=by kernel_rfl
theorem zgB (K:PySem.W.Frag):PySem.W.kitOne K (.type "tuple") (.type "str")=some false:=by kernel_rfl
theorem zhT (K:PySem.W.Frag):PySem.W.kitOne K (.type "list") (.type "str")=some false:=by kernel_rfl
inductive TyP:String→String→Bool→Prop where
 | zig:TyP "int" "int" true
 | zhj:TyP "bool" "int" true
 | zh7:TyP "str" "int" false
 | zeQ:TyP "NoneType" "int" false
 | zgF:TyP "tuple" "int" false
 | zhl:TyP "list" "int" false
 | zhS:TyP "int" "bool" false
 | zgy:TyP "bool" "bool" true
 | zhk:TyP "str" "bool" false
 | zek:TyP "NoneType" "bool" false
 | zfK:TyP "tuple" "bool" false
 | zgL:TyP "list" "bool" false
 | zgD:TyP "int" "tuple" false
 | zfI:TyP "bool" "tuple" false
 | zgG:TyP "str" "tuple" false
 | zdZ:TyP "NoneType" "tuple" false
 | zfq:TyP "tuple" "tuple" true
 | zfJ:TyP "list" "tuple" false
 | zhi:TyP "int" "list" false
 | zgK:TyP "bool" "list" false
 | zhf:TyP "str" "list" false
 | zel:TyP "NoneType" "list" false
 | zfY:TyP "tuple" "list" false
 | zgM:TyP "list" "list" true
 | zih:TyP "int" "str" false
 | zhD:TyP "bool" "str" false
 | zii:TyP "str" "str" true
 | zes:TyP "NoneType" "str" false
 | zgB:TyP "tuple" "str" false
 | zhT:TyP "list" "str" false
theorem TyP.ok (K:PySem.W.Frag) {t n:String} {b:Bool} (h:TyP t n b):PySem.W.kitOne K (.type t) (.type n)=some b:=by
 cases h
 ·exact V2.zig K
 ·exact V2.zhj K
 ·exact V2.zh7 K
 ·exact V2.zeQ K
 ·exact V2.zgF K
 ·exact V2.zhl K
 ·exact V2.zhS K
 ·exact V2.zgy K
 ·exact V2.zhk K
 ·exact V2.zek K
 ·exact V2.zfK K
 ·exact V2.zgL K
 ·exact V2.zgD K
 ·exact V2.zfI K
 ·exact V2.zgG K
 ·exact V2.zdZ K
 ·exact V2.zfq K
 ·exact V2.zfJ K
 ·exact V2.zhi K
 ·exact V2.zgK K
 ·exact V2.zhf K
 ·exact V2.zel K
 ·exact V2.zfY K
 ·exact V2.zgM K
 ·exact V2.zih K
 ·exact V2.zhD K
 ·exact V2.zii K
 ·exact V2.zes K
 ·exact V2.zgB K
 ·exact V2.zhT K
def MtV (K:PySem.W.Frag) (W:WX) (r:V→List V→Hp→VK→Prop) (g:A→List A→Mo A):Prop :=
 ∀ G ι Ω H σ x xs a as Q,Wd K G ι Ω H→Den K G ι x a→DenL K G ι xs as→Post K (Den K) W G ι σ Q (g a as Ω)→r x xs H Q
def isL (Ω:Sto) (a:A):Prop:=∃ ds,zaH Ω a=some ds
open Classical in
@[simp] noncomputable def vBM (g:A→List A→Mo A) (fo:Ev→Mo A) (f:Ev→Mo (List A)):Ev→Mo A:=fun ρ=>mb (fo ρ) fun o Ω=>if isL Ω o then mb (f ρ) (fun as=>g o as) Ω else none
theorem zoT {K:PySem.W.Frag} {G H:Hp} {ι:List Addr} {Ω:Sto} {v:V} {a:A} (w:Wd K G ι Ω H) (d:Den K G ι v a) (h:isL Ω a):tyV K "list" v H:=by
 obtain ⟨ds,e⟩:=h
 obtain ⟨p,xs,rfl,q,_⟩:=zcI w d e
 exact .inl ⟨rfl,xs,q⟩
theorem zmj {name:Str} {apos:Pos} {id:String} {r:V→List V→Hp→VK→Prop} {g:A→List A→Mo A} (pa:PlainAttrs "list") (slot:Slot "list" name id) (hty:typeOf (.builtin id)=pure (.type "method_descriptor")) (hm:MtR X id r) (hv:MtV X.K W r g) (ho:VE X W a fa) (ha:VA X W (e :: es) fs)
  (hbase:attributeBase a name X.env (eval a X.env)=eval a X.env:=by rfl)
  (hfew:((backTo pos (starEach (e :: es) X.env)).all (fun x=>!x.1) && (backToKw pos (keywordEach [] X.env)).all (fun x=>x.1.isSome)
   && decide ((e :: es).length + ([] : List Keyword).length + (if ([] : List Keyword).isEmpty then 0 else 1) < 30))=true:=by rfl)
  (hline:(apos.endLine == pos.line)=true:=by rfl) (hs:starEach (e :: es) X.env=(false,eval e X.env) :: starEach es X.env:=by rfl) (hplain:(backTo pos (starEach es X.env)).any (·.1)=false:=by rfl) :
  VE X W (.Call (.Attribute a name apos) (e :: es) [] pos) (vBM g fa fs):=by
 obtain ⟨t,p1,s1⟩:=ho
 obtain ⟨u,p2,s2⟩:=ha
 refine ⟨_,ztX pa slot hty hm p1 p2 hbase hfew hline hs hplain,fun G ι Ω H σ ρ Q w r h=>?_⟩
 refine s1 G ι Ω H σ ρ _ w r (Post.mb h fun x Ω1 v H1 G1 ι1 x1 w1 d1 h1=>?_)
 split at h1
 ·rename_i hl
  refine ⟨zoT w1 d1 hl,s2 G1 ι1 Ω1 H1 σ ρ _ w1 (r.ext x1) (Post.mb h1 fun as Ω2 vs H2 G2 ι2 x2 w2 d2 h2=>?_)⟩
  exact hv G2 ι2 Ω2 H2 σ v vs x as Q w2 (d1.ext x2) d2 h2
 ·exact False.elim h1
def zgS (Ω:Sto):A→Option (Nat × List A)
 | .cel k=>match Ω[k]? with
  | some (.lst ds)=>some (k,ds)
  | _=>none
 | _=>none
theorem zo3 {K:PySem.W.Frag} {G H:Hp} {ι:List Addr} {Ω:Sto} {v:V} {a:A} {k:Nat} {ds:List A} (w:Wd K G ι Ω H) (d:Den K G ι v a) (h:zgS Ω a=some (k,ds)):∃ p xs,v = .ref p∧ι[k]? = some p∧G p=none∧H p=some (.lst xs)∧DenL K G ι xs ds:=by
 cases a with
 | cel j =>
  simp only [zgS] at h
  split at h
  ·rename_i es e
   cases h
   simp only [Den] at d
   obtain ⟨p,rfl,hk⟩:=d
   obtain ⟨g,xs,h3,h4⟩:=w.cel k _ p e hk
   exact ⟨p,xs,rfl,hk,g,h3,h4⟩
  ·cases h
 | _=>simp [zgS] at h
@[simp] def zdS (o:A) (as:List A):Mo A:=fun Ω=>match zgS Ω o,as with
 | some (k,ds),[y]=>if ds.length < sizeLine then some (.ok .non,Ω.set k (.lst (ds ++ [y]))) else none
 | _,_=>none
theorem ze5:MtV X.K W zmQ zdS:=by
 intro G ι Ω H σ x xs a as Q w d1 d2 h
 unfold zdS at h
 split at h
 ·rename_i k ds y e
  split at h
  ·rename_i hl
   obtain ⟨p,zs,rfl,hk,g,h3,h4⟩:=zo3 w d1 e
   obtain ⟨u,rfl,du⟩:=den1 d2
   refine ⟨p,zs,u,rfl,rfl,h3,by rw [h4.length];exact hl,?_⟩
   exact h _ _ G ι (Ext.refl _ _) (w.put (c := .lst (ds ++ [y])) hk g ⟨g,_,zaw,h4.append (.cons du .nil)⟩) (by simp only [Den])
  ·exact False.elim h
 ·exact False.elim h
end
end V2
namespace V2
open PySem PySem.Spec PyProof.Rows L2
mutual
def Cl (n:Nat):A→Prop
 | .cel k=>k < n
 | .tup ds=>ClL n ds
 | .lst ds=>ClL n ds
 | _=>True
def ClL (n:Nat):List A→Prop
 | []=>True
 | d :: ds=>Cl n d∧ClL n ds
end
section
variable {K:PySem.W.Frag} {G:Hp} {ι:List Addr}
mutual
theorem Den.cl:∀ {v:V} {d:A},Den K G ι v d→Cl ι.length d
 | _, .int _,_=>by simp only [Cl]
 | _, .bl _,_=>by simp only [Cl]
 | _, .str _,_=>by simp only [Cl]
 | _, .non,_=>by simp only [Cl]
 | _, .ty _,_=>by simp only [Cl]
 | _, .adr _,_=>by simp only [Cl]
 | _, .exn _ _ _ _,_=>by simp only [Cl]
 | _, .gl _,_=>by simp only [Cl]
 | _, .scr _,_=>by simp only [Cl]
 | _, .tup ds,h=>by
  simp only [Den] at h;simp only [Cl]
  obtain ⟨a,xs,_,_,h3⟩:=h
  exact DenL.cl h3
 | _, .lst ds,h=>by
  simp only [Den] at h;simp only [Cl]
  obtain ⟨a,xs,_,_,h3⟩:=h
  exact DenL.cl h3
 | _, .cel k,h=>by
  simp only [Den] at h;simp only [Cl]
  obtain ⟨a,_,h2⟩:=h
  exact (List.getElem?_eq_some_iff.mp h2).1
theorem DenL.cl:∀ {xs:List V} {ds:List A},DenL K G ι xs ds→ClL ι.length ds
 | _,[],_=>by simp only [ClL]
 | _,d :: ds,h=>by
  simp only [DenL] at h;simp only [ClL]
  obtain ⟨x,r,_,h2,h3⟩:=h
  exact ⟨Den.cl h2,DenL.cl h3⟩
end
mutual
theorem Den.cut {ι':List Addr} {n:Nat} (e:∀ k,k < n→ι[k]? = ι'[k]?):∀ {v:V} {d:A},Den K G ι' v d→Cl n d→Den K G ι v d
 | _, .int _,h,_=>by simpa only [Den] using h
 | _, .bl _,h,_=>by simpa only [Den] using h
 | _, .str _,h,_=>by simpa only [Den] using h
 | _, .non,h,_=>by simpa only [Den] using h
 | _, .ty _,h,_=>by simpa only [Den] using h
 | _, .adr _,h,_=>by simpa only [Den] using h
 | _, .exn _ _ _ _,h,_=>by simpa only [Den] using h
 | _, .gl _,h,_=>by simpa only [Den] using h
 | _, .scr _,h,_=>by simpa only [Den] using h
 | _, .tup ds,h,c=>by
  simp only [Den] at h ⊢;simp only [Cl] at c
  obtain ⟨a,xs,h1,h2,h3⟩:=h
  exact ⟨a,xs,h1,h2,DenL.cut e h3 c⟩
 | _, .lst ds,h,c=>by
  simp only [Den] at h ⊢;simp only [Cl] at c
  obtain ⟨a,xs,h1,h2,h3⟩:=h
  exact ⟨a,xs,h1,h2,DenL.cut e h3 c⟩
 | _, .cel k,h,c=>by
  simp only [Den] at h ⊢;simp only [Cl] at c
  obtain ⟨a,h1,h2⟩:=h
  exact ⟨a,h1,(e k c).trans h2⟩
theorem DenL.cut {ι':List Addr} {n:Nat} (e:∀ k,k < n→ι[k]? = ι'[k]?):∀ {xs:List V} {ds:List A},DenL K G ι' xs ds→ClL n ds→DenL K G ι xs ds
 | _,[],h,_=>by simpa only [DenL] using h
 | _,d :: ds,h,c=>by
  simp only [DenL] at h ⊢;simp only [ClL] at c
  obtain ⟨x,r,h1,h2,h3⟩:=h
  exact ⟨x,r,h1,Den.cut e h2 c.1,DenL.cut e h3 c.2⟩
end
theorem Ext.cut {G':Hp} {ι':List Addr} (e:Ext G ι G' ι'):∀ k,k < ι.length→ι[k]? = ι'[k]?:=fun k hk=>by
 rw [List.getElem?_eq_getElem hk,e.pre k _ (List.getElem?_eq_getElem hk)]
theorem Wd.cut {G' H H':Hp} {ι':List Addr} {Ω Ω':Sto} (w:Wd K G ι Ω H) (w':Wd K G' ι' Ω' H') (e:Ext G ι G' ι') (ht:Ω'.take Ω.length=Ω):Wd K G' ι Ω H' where
 sub:=w'.sub
 inj:=w.inj
 len:=w.len
 live:=fun a ha=>by
  obtain ⟨k,hk,ea⟩:=List.getElem_of_mem ha
  exact w'.live a (List.mem_of_getElem? (e.pre k a (by rw [← ea];exact List.getElem?_eq_getElem hk)))
 cel:=fun k c a h1 h2=>by
  have hk:k < Ω.length:=(List.getElem?_eq_some_iff.mp h1).1
  have h1':Ω'[k]? = some c:=by
   rw [← ht,List.getElem?_take] at h1
   rw [if_pos hk] at h1;exact h1
  have q:=w'.cel k c a h1' (e.pre k a h2)
  have q0:=w.cel k c a h1 h2
  cases c with
  | lst ds =>
   obtain ⟨g,xs,h3,h4⟩:=q
   obtain ⟨_,_,_,h5⟩:=q0
   exact ⟨g,xs,h3,h4.cut e.cut h5.cl⟩
  | dct kvs =>
   obtain ⟨g,ws,h3,h4,h5⟩:=q
   obtain ⟨_,_,_,_,h6⟩:=q0
   exact ⟨g,ws,h3,h4,h5.cut e.cut h6.cl⟩
  | ins C fs =>
   obtain ⟨g,dx,ws,h3,h4,h5⟩:=q
   obtain ⟨_,_,_,_,_,h6⟩:=q0
   exact ⟨g,dx,ws,h3,h4,h5.cut e.cut h6.cl⟩
  | tab x pos qual=>exact q
  | dead=>trivial
end
open Classical in
noncomputable def trim (Ω:Sto):Option (Rs A × Sto)→Option (Rs A × Sto)
 | some (.ok a,Ω')=>if Ω'.take Ω.length=Ω∧Cl Ω.length a then some (.ok a,Ω) else some (.ok a,Ω')
 | some (.exc x,Ω')=>if Ω'.take Ω.length=Ω∧ClL Ω.length (x.fs.map (·.2)) then some (.exc x,Ω) else some (.exc x,Ω')
 | none=>none
theorem zqF {K:PySem.W.Frag} {W:WX} {G H:Hp} {ι:List Addr} {Ω:Sto} {σ:L2.St} {Q:VK} {r:Option (Rs A × Sto)} (w:Wd K G ι Ω H) (h:Post K (Den K) W G ι σ Q (trim Ω r)):Post K (Den K) W G ι σ Q r:=by
 match r,h with
 | some (.ok a,Ω'),h =>
  simp only [trim] at h
  split at h
  ·rename_i hc
   exact fun v H' G' ι' e w' d=>h v H' G' ι ⟨e.same,fun _ _ q=>q⟩ (w.cut w' e hc.1) (d.cut e.cut (by rw [w.len];exact hc.2))
  ·exact h
 | some (.exc x,Ω'),h =>
  simp only [trim] at h
  split at h
  ·rename_i hc
   intro cls dx H' G' ι' e w' d
   refine h cls dx H' G' ι ⟨e.same,fun _ _ q=>q⟩ (w.cut w' e hc.1) d
  ·exact h
@[simp] def outR:OS→Option (Rs A × Sto)
 | some (.nx,_,Ω)=>some (.ok .non,Ω)
 | some (.ret a,_,Ω)=>some (.ok a,Ω)
 | some (.exc x,_,Ω)=>some (.exc x,Ω)
 | _=>none
@[simp] def ev0 (n:Nat) (ds:List A):Ev:=ds.map some ++ List.replicate (n - ds.length) none
@[simp] noncomputable def fnF (n:Nat) (b:MS):List A→Mo A:=fun ds Ω=>trim Ω (outR (b (ev0 n ds) Ω))
def spV (K:PySem.W.Frag) (n:Nat) (F:List A→Mo A):Sp:=fun vs H Q E=>vs.length=n∧∃ G ι Ω ds,Wd K G ι Ω H∧DenL K G ι vs ds∧Post K (Den K) (fun _=>E) G ι [] Q (F ds Ω)
abbrev DefV (P:Program) (w:World) (K:PySem.W.Frag) (mg:Str→Option Value) (base:Heap) (x:Str) (k:Nat) (ps:List Str) (F:List A→Mo A):Prop:=DefX P w K mg base x k ps (spV K ps.length F)
theorem zmv {K:PySem.W.Frag} {G:Hp} {ι:List Addr} {N:List Str} {vs:List V} {ds:List A} (d:DenL K G ι vs ds):EnvR K G ι (L2.start N vs) (ev0 N.length ds):=by
 unfold L2.start ev0
 have hl:=d.length
 refine ⟨by simp [hl],fun i a h=>?_⟩
 by_cases hi:i < ds.length
 ·rw [List.getElem?_append_left (by simpa using hi)] at h
  rw [List.getElem?_map] at h
  cases e:ds[i]? with
  | none=>rw [e] at h;cases h
  | some a' =>
   rw [e] at h
   cases h
   obtain ⟨v,q1,q2⟩:=d.get e
   refine ⟨v,?_,q2⟩
   rw [List.getElem?_append_left (by simp;omega),List.getElem?_map,q1]
   rfl
 ·rw [List.getElem?_append_right (by simpa using hi)] at h
  have:=List.mem_of_getElem? h
  simp at this
theorem zhh {K:PySem.W.Frag} {N:List Str} {t:TS} {b:MS} {H:Hp} {vs:List V} {Q:VK} {E:XK} {n:Nat} (s:SimS K (fun _=>E) t b) (h:spV K n (fnF N.length b) vs H Q E):t { nx:=fun _ H'=>Q .non H',rt:=Q } (L2.start N vs) H:=by
 obtain ⟨hl,G,ι,Ω,ds,w,d,q⟩:=h
 refine s G ι Ω H _ (ev0 N.length ds) _ w (zmv d) ?_
 have q':=zqF w q
 revert q'
 generalize b (ev0 N.length ds) Ω=r
 intro q'
 match r,q' with
 | some (.nx,ρ',Ω'),q'=>exact fun σ' H' G' ι' e w' r'=>q' .non H' G' ι' e w' (by simp only [Den])
 | some (.ret a,ρ',Ω'),q'=>exact fun σ' H' G' ι' e w' r' v d'=>q' v H' G' ι' e w' d'
 | some (.exc x,ρ',Ω'),q'=>exact fun σ' H' G' ι' e w' r' cls dx d'=>q' cls dx H' G' ι' e w' d'
 | some (.bk,ρ',Ω'),q'=>exact False.elim q'
 | some (.ct,ρ',Ω'),q'=>exact False.elim q'
section
variable {P:Program} {w:World} {K:PySem.W.Frag} {mg:Str→Option Value} {base:Heap}
theorem zpJ {x:Str} {st:Stmt} {N ps:List Str} {k:Nat} {b:MS} {f:Addr} {fd:FuncData} (F:Fun K x x st f fd) (S:zaq N ps (zab st))
  (hbody:∀ (f:Addr) (cdv:Value) (A:Around) (outer:List Env) (s:Shared) (H:Hp) (E:XK),Room k (A.deeper (envOfC x (zab st) s.heap.objs.size f cdv)) →
   VSs (cxX P w K mg base N x (zab st) f cdv A outer s H E) (fun _=>E) (zaj st) b):FnOk P w K mg base (CXE P w) (k + 1) f fd ps (spV K ps.length (fnF N.length b)):=by
 obtain ⟨oc,od,kV,doc,pm,an,cdv,ct,osl,rfl,lk,hcd⟩:=F.ex
 refine zoG lk hcd S (fun vs H Q E h=>h.1) fun A outer s H vs Q E hr hsp=>?_
 obtain ⟨t,p,q⟩:=hbody f cdv A outer s H E hr
 exact ⟨t,zlk p,zhh q hsp⟩
theorem DefV.of {x:Str} {st:Stmt} {N ps:List Str} {k:Nat} {b:MS} (h:HasFn K mg x st) (S:zaq N ps (zab st))
  (bind:∀ (kV doc pm:Value) (an:Option Addr) (cdv ct:Value) (us:List Value),us.length=ps.length→bindArgs (PySem.W.fnOf x x (zan st) (zaj st) (zab st) .none kV doc pm an cdv ct) ⟨us,[]⟩ = pure (ps.zip us))
  (hbody:∀ (f:Addr) (cdv:Value) (A:Around) (outer:List Env) (s:Shared) (H:Hp) (E:XK),Room k (A.deeper (envOfC x (zab st) s.heap.objs.size f cdv)) →
   VSs (cxX P w K mg base N x (zab st) f cdv A outer s H E) (fun _=>E) (zaj st) b):DefV P w K mg base x (k + 1) ps (fnF N.length b):=by
 obtain ⟨f,fd,hm,F⟩:=h.ex
 exact ⟨f,fd,zpJ F S hbody,hm,F.kp,F.binds bind⟩
abbrev DefN (P:Program) (w:World) (K:PySem.W.Frag) (mg:Str→Option Value) (base:Heap) (x:Str) (k:Nat) (ps:List Str) (F:List A→Mo A):Prop:=Def P w K mg base x k ps (fun vs H Q _=>spV K ps.length F vs H Q fun _ _ _=>False)
theorem zmw {k:Nat} {f:Addr} {fd:FuncData} {ps:List Str} {sp:Sp} (F:FnOk P w K mg base (CXE P w) k f fd ps sp):FnOk P w K mg base CX0 k f fd ps (fun vs H Q _=>sp vs H Q fun _ _ _=>False) :=
 ⟨fun vs H Q E h=>F.len _ _ _ _ h,fun A outer s H args us vs Q E hr e0 hb r hsp=>codeAny_mono (F.run A outer s H args us vs Q _ hr e0 hb r hsp) fun r s' hq=>by
  cases r with
  | error ev=>obtain ⟨x,cls,dx,H',_,_,_,_,_,_,q⟩:=hq;exact q.elim
  | ok fl=>cases fl <;> exact hq⟩
theorem DefV.calm {x:Str} {k:Nat} {ps:List Str} {F:List A→Mo A} (D:DefV P w K mg base x k ps F):DefN P w K mg base x k ps F:=by
 obtain ⟨f,fd,h1,h2,h3,h4⟩:=D.ex
 exact ⟨f,fd,zmw h1,h2,h3,h4⟩
end
section
variable {X:Cx} {W:WX} {x:Str} {p pos:Pos} {e:Expr} {es:List Expr} {fs:Ev→Mo (List A)}
@[simp] def zaz (n:Nat) (F:List A→Mo A):List A→Mo A:=fun as=>if as.length=n then F as else stuck
theorem zn5 {K:PySem.W.Frag} {G G1:Hp} {ι ι1:List Addr} {σ:L2.St} {Q:VK} {r:Option (Rs A × Sto)} {W:WX} (h:Post K (Den K) W G ι σ Q r) (x1:Ext G ι G1 ι1):Post K (Den K) (fun _=>fun cls dx H'=>W σ cls dx H') G1 ι1 [] Q r:=by
 match r,h with
 | some (.ok a,Ω2),h=>exact fun v H' G' ι' x2 w2 d2=>h v H' G' ι' (x1.trans x2) w2 d2
 | some (.exc a,Ω2),h=>exact fun cls dx H' G' ι' x2 w2 d2=>h cls dx H' G' ι' (x1.trans x2) w2 d2
theorem zaV {k:Nat} {ps:List Str} {F:List A→Mo A} (T:zgm X W) (D:DefV X.prog X.w X.K X.mg X.base x k ps F) (hr:Room k X.A) (hg:Gl X x) (ha:VA X W (e :: es) fs)
  (hdb:(x == ("__debug__" : Str))=false:=by decide) (he:starEach (e :: es) X.env=(false,eval e X.env) :: starEach es X.env:=by rfl) (hpl:(backTo pos (starEach es X.env)).any (·.1)=false:=by rfl):VE X W (.Call (.Name x p) (e :: es) [] pos) (vCl (zaz ps.length F) fs):=by
 obtain ⟨t,p1,s1⟩:=ha
 refine ⟨_,zrv T D hr hg p1 hdb he hpl,fun G ι Ω H σ ρ Q w r h=>?_⟩
 refine s1 G ι Ω H σ ρ _ w r (Post.mb h fun as Ω1 vs H1 G1 ι1 x1 w1 d1 h1=>?_)
 unfold zaz at h1
 split at h1
 ·rename_i hl
  exact ⟨by rw [d1.length];exact hl,G1,ι1,Ω1,as,w1,d1,zn5 h1 (Ext.refl _ _)⟩
 ·exact False.elim h1
@[simp] def noX (F:List A→Mo A):List A→Mo A:=fun as Ω=>match F as Ω with
 | some (.exc _,_)=>none
 | r=>r
abbrev cI (i:Int):Ev→Mo A:=fun _=>ret (.int i)
abbrev cB (i:Bool):Ev→Mo A:=fun _=>ret (.bl i)
abbrev cS (i:Str):Ev→Mo A:=fun _=>ret (.str i)
abbrev cN:Ev→Mo A:=fun _=>ret .non
abbrev a0:Ev→Mo (List A):=fun _=>ret []
abbrev sl0:Ev→Mo (Option Int):=fun _=>ret none
end
end V2
namespace V2
open PySem L2
section
variable {α β:Type} {Ω Ω':Sto} {a:A}
@[simp] theorem zuo (x:α) (k:α→Mo β):mb (ret x) k=k x:=rfl
theorem zke {m:Mo α} {k:α→Mo β} {x:α} (h:m Ω=some (.ok x,Ω')):mb m k Ω=k x Ω':=by unfold mb;rw [h]
@[simp] theorem zub (x:α) (k:α→Mo β):mb (need (some x)) k=k x:=rfl
theorem zmP {p:Prop} [Decidable p] (k:Unit→Mo β) (h:p):mb (chk p) k=k ():=by funext Ω;simp [mb,chk,h]
@[simp] theorem zuk (x:α):(ret x:Mo α) Ω=some (.ok x,Ω):=rfl
@[simp] theorem zrM:trim Ω (some (.ok a,Ω))=some (.ok a,Ω):=by simp only [trim];split <;> rfl
theorem zeg {Δ:Sto} (h:Cl Ω.length a):trim Ω (some (.ok a,Ω ++ Δ))=some (.ok a,Ω):=by
 simp only [trim]
 rw [if_pos ⟨by simp,h⟩]
@[simp] theorem zum (x:α) (ρ:Ev) (k:α→Sto→OS):sM (ret x) ρ k=k x:=rfl
theorem zmD {m:Mo α} {ρ:Ev} {k:α→Sto→OS} {x:α} (h:m Ω=some (.ok x,Ω')):sM m ρ k Ω=k x Ω':=by unfold sM;rw [h]
@[simp] theorem zlL (ρ:Ev):outR (some (.ret a,ρ,Ω))=some (.ok a,Ω):=rfl
@[simp] theorem ztS (ρ:Ev):outR (some (.nx,ρ,Ω))=some (.ok .non,Ω):=rfl
theorem zak {f g:MS} {ρ ρ1:Ev} (h:f ρ Ω=some (.nx,ρ1,Ω')):sSeq f g ρ Ω=g ρ1 Ω':=by unfold sSeq;rw [h]
theorem zkU {f g:MS} {ρ ρ1:Ev} (h:f ρ Ω=some (.ret a,ρ1,Ω')):sSeq f g ρ Ω=some (.ret a,ρ1,Ω'):=by unfold sSeq;rw [h]
theorem zbO {α:Type} (xs:List α) (n:Nat):atI xs (n:Int)=xs[n]?:=by
 unfold atI ixN
 rw [if_pos (by omega)]
 by_cases h:(n:Int) < xs.length
 ·rw [if_pos h];simp
 ·rw [if_neg h];simp;omega
theorem zkb {α:Type} (xs:List α) (n:Nat):atI xs (OfNat.ofNat n:Int)=xs[n]?:=zbO xs n
theorem zo2 {α:Type} (xs:List α):atI xs 0=xs[0]?:=zbO xs 0
theorem zqv {α:Type} (xs:List α):atI xs 1=xs[1]?:=zbO xs 1
end
@[simp] theorem zrE (Ω:Sto) (ds:List A):zaH Ω (.lst ds)=some ds:=rfl
@[simp] theorem zrF (Ω:Sto) (ns:List Int):zaH Ω (.scr ns)=some (ns.map A.int):=rfl
@[simp] theorem zrA (Ω:Sto) (ds:List A):zaH Ω (.tup ds)=none:=rfl
@[simp] theorem zrz (Ω:Sto) (i:Int):zaH Ω (.int i)=none:=rfl
@[simp] theorem zrC (Ω:Sto) (ds:List A):zaF Ω (.lst ds)=some ds:=rfl
@[simp] theorem zrD (Ω:Sto) (ns:List Int):zaF Ω (.scr ns)=some (ns.map A.int):=rfl
@[simp] theorem zrB (Ω:Sto) (ds:List A):zaF Ω (.tup ds)=some ds:=rfl
@[simp] theorem zl8 (Ω:Sto) (k:Nat):zaF Ω (.cel k)=zaH Ω (.cel k):=rfl
@[simp] theorem zud (Ω:Sto) (i:Int):tyA Ω (.int i)=some "int":=rfl
@[simp] theorem zup (Ω:Sto) (i:Bool):tyA Ω (.bl i)=some "bool":=rfl
@[simp] theorem ztI (Ω:Sto) (i:Str):tyA Ω (.str i)=some "str":=rfl
@[simp] theorem ztU (Ω:Sto):tyA Ω .non=some "NoneType":=rfl
@[simp] theorem ztD (Ω:Sto) (ds:List A):tyA Ω (.tup ds)=some "tuple":=rfl
@[simp] theorem ztP (Ω:Sto) (ds:List A):tyA Ω (.lst ds)=some "list":=rfl
@[simp] theorem zsD:zh5 .non=some true:=rfl
@[simp] theorem zsY (i:Int):zh5 (.int i)=some false:=rfl
@[simp] theorem zti (ds:List A):zh5 (.tup ds)=some false:=rfl
@[simp] theorem zsC (ds:List A):zh5 (.lst ds)=some false:=rfl
@[simp] theorem ztl (b:Bool):zh5 (.bl b)=some false:=rfl
theorem zbo {Ω:Sto} {k:Nat} {ds:List A} (h:Ω[k]? = some (.lst ds)):zaH Ω (.cel k)=some ds:=by simp [zaH,h]
theorem zeB {Ω:Sto} {k:Nat} {ds:List A} (h:Ω[k]? = some (.lst ds)):zgS Ω (.cel k)=some (k,ds):=by simp [zgS,h]
theorem zjw {Ω:Sto} {a:A} {ds:List A} (h:zaH Ω a=some ds):isL Ω a:=⟨ds,h⟩
section
variable {ok:Sto→Prop} {g:A→MS} {b:MS} {x:A} {xs:List A} {ρ ρ0 ρ1:Ev} {Ω Ω0 Ω1:Sto} {a:A}
theorem zhd (h:ok Ω):fFor ok g b [] ρ Ω=some (.nx,ρ,Ω):=by simp [fFor,h]
theorem zbb (h:ok Ω) (hg:g x ρ Ω=some (.nx,ρ0,Ω0)) (hb:b ρ0 Ω0=some (.nx,ρ1,Ω1)):fFor ok g b (x :: xs) ρ Ω=fFor ok g b xs ρ1 Ω1:=by simp [fFor,h,hg,hb]
theorem zqX (h:ok Ω) (hg:g x ρ Ω=some (.nx,ρ0,Ω0)) (hb:b ρ0 Ω0=some (.ct,ρ1,Ω1)):fFor ok g b (x :: xs) ρ Ω=fFor ok g b xs ρ1 Ω1:=by simp [fFor,h,hg,hb]
theorem zli (h:ok Ω) (hg:g x ρ Ω=some (.nx,ρ0,Ω0)) (hb:b ρ0 Ω0=some (.ret a,ρ1,Ω1)):fFor ok g b (x :: xs) ρ Ω=some (.ret a,ρ1,Ω1):=by simp [fFor,h,hg,hb]
theorem zhb {e:Exc} (h:ok Ω) (hg:g x ρ Ω=some (.nx,ρ0,Ω0)) (hb:b ρ0 Ω0=some (.exc e,ρ1,Ω1)):fFor ok g b (x :: xs) ρ Ω=some (.exc e,ρ1,Ω1):=by simp [fFor,h,hg,hb]
theorem zg3 (I:Nat→Ev→Sto→Prop) (hok:∀ i ρ Ω,I i ρ Ω→ok Ω):∀ (xs:List A) (j:Nat) (ρ:Ev) (Ω:Sto),I j ρ Ω →
  (∀ i x ρ Ω,xs[i]? = some x→I (j + i) ρ Ω→∃ ρ0 Ω0 ρ1 Ω1,g x ρ Ω=some (.nx,ρ0,Ω0)∧(b ρ0 Ω0=some (.nx,ρ1,Ω1)∨b ρ0 Ω0=some (.ct,ρ1,Ω1))∧I (j + i + 1) ρ1 Ω1) →
  ∃ ρ' Ω',fFor ok g b xs ρ Ω=some (.nx,ρ',Ω')∧I (j + xs.length) ρ' Ω'
 | [],j,ρ,Ω,h0,_=>⟨ρ,Ω,zhd (hok _ _ _ h0),h0⟩
 | x :: xs,j,ρ,Ω,h0,turn=>by
  obtain ⟨ρ0,Ω0,ρ1,Ω1,e1,e2,e3⟩:=turn 0 x ρ Ω rfl h0
  obtain ⟨ρ',Ω',q1,q2⟩:=zg3 I hok xs (j + 1) ρ1 Ω1 e3 fun i y ρ Ω hy hI=>by
   have:=turn (i + 1) y ρ Ω (by simpa using hy) (by rw [show j + (i + 1)=j + 1 + i by omega];exact hI)
   rwa [show j + (i + 1) + 1=j + 1 + i + 1 by omega] at this
  refine ⟨ρ',Ω',?_,by rw [List.length_cons,show j + (xs.length + 1)=j + 1 + xs.length by omega];exact q2⟩
  rcases e2 with e2 | e2
  ·rw [zbb (hok _ _ _ h0) e1 e2,q1]
  ·rw [zqX (hok _ _ _ h0) e1 e2,q1]
end
section
variable {c:Ev→Mo Bool} {b:MS} {n:Nat} {ρ ρ1:Ev} {Ω Ω1 Ω2:Sto} {a:A}
theorem zhp (hc:c ρ Ω=some (.ok true,Ω1)) (hb:b ρ Ω1=some (.nx,ρ1,Ω2)):zdF c b (n + 1) ρ Ω=zdF c b n ρ1 Ω2:=by simp [zdF,hc,hb]
theorem zil (hc:c ρ Ω=some (.ok false,Ω1)):zdF c b (n + 1) ρ Ω=some (.nx,ρ,Ω1):=by simp [zdF,hc]
end
end V2
namespace V2
open PySem PySem.Spec PyProof.Rows L2
def Ite (K:PySem.W.Frag) (a:Addr):It :=
 ⟨fun i H=>∃ xs x,SqL K H a xs∧xs[i]? = some x,fun i H x H'=>∃ p y,H p=none∧H'=upd H p (.tup [.int (i:Int),y])∧x = .ref p∧∀ xs,SqL K H a xs→xs[i]? = some y,fun i H=>∃ xs,SqL K H a xs∧xs.length ≤ i⟩
section
variable {X:Cx} {pins:List (Addr × Obj)} {σ:L2.St} {H:Hp} {s:Shared} {h':Heap}
theorem Inv.zqc {t':Nat} {e it:Addr} (I:Inv X pins σ H s) (k:∀ b o,b ≠ e→b ≠ it→s.heap.get? b=some o→h'.get? b=some o) (fe:FpOk X pins H e) (ft:FpOk X pins H it):Inv X pins σ H { s with heap:=h',toks:=t' }:=by
 obtain ⟨a0,a1,a2,a3,a4,a5⟩:=fe
 obtain ⟨b0,b1,b2,b3,b4,b5⟩:=ft
 have ne:∀ b u,H b=some u→b ≠ e:=fun b u q z=>by rw [z,a0] at q;cases q
 have nit:∀ b u,H b=some u→b ≠ it:=fun b u q z=>by rw [z,b0] at q;cases q
 refine I.step (g':=s.gens) (d':=s.drawn) (ch:=[e,it]) (fun b hb=>?_) (fun b o _ _ hc q _=>k b o (fun z=>hc (by simp [z])) (fun z=>hc (by simp [z])) q) (fun b o _ _ hc q _=>⟨o.slots,k b o (fun z=>hc (by simp [z])) (fun z=>hc (by simp [z])) q⟩) (fun _ _ _ _ n=>n)
  (fun b o hc q=>⟨o,k b o (fun z=>hc (by simp [z])) (fun z=>hc (by simp [z])) q⟩) (fun _ _ q=>q) (fun _ _ _ q=>q) (fun b ps q=>⟨#[],by rw [q];simp⟩) (fun m hm=>?_) (fun b u q=>?_) I.bare
 ·rcases List.mem_cons.mp hb with z | z
  ·subst z;exact ⟨a3,a1,a4,a5⟩
  ·have z:b=it:=by simpa using z
   subst z;exact ⟨b3,b1,b4,b5⟩
 ·obtain ⟨o,es,ep,ho,r⟩:=hm
  exact ⟨o,es,ep,k _ o (Ne.symm a1) (Ne.symm b1) ho,r⟩
 ·refine (I.hok b u q).stay (fun c v hc q'=>k c v ?_ ?_ q') (fun _ q=>q) fun _ _ q=>q
  ·rcases hc with z | z
   ·rw [z];exact ne b u q
   ·exact ne c _ z
  ·rcases hc with z | z
   ·rw [z];exact nit b u q
   ·exact nit c _ z
end
theorem Inv.ztO {X:Cx} {pins:List (Addr × Obj)} {σ:L2.St} {H:Hp} {s:Shared} {p:Addr} {o:HO} (I:Inv X pins σ H s) (hp:H p=none) (h0:X.s₀.heap.get? p=none) (hL:p ≠ X.env.locals) (hC:∀ x c,X.env.cells.lookup x=some c→c ≠ p) (hP:∀ q ∈ X.pn ++ pins,q.1 ≠ p)
  (hok:HOk X.prog X.w (upd H p o) s.heap):Inv X pins σ (upd H p o) s where
 ok:=I.ok
 os:=I.os
 bare:=I.bare
 base:={
  keep:=I.base.keep
  slot:=I.base.slot
  free:=fun b ob q n hx=>by
   have hb:b ≠ p:=fun z=>by subst z;rw [h0] at q;cases q
   rw [zap hb];exact I.base.free b ob q n hx
  there:=I.base.there
  tups:=fun b xs q=>by have z:=I.base.tups b xs q;rw [zap (zaK z hp)];exact z
  frzs:=fun b ob u q=>by have z:=I.base.frzs b ob u q;rw [zap (zaK z hp)];exact z
  tbls:=fun b ps q=>by obtain ⟨more,z⟩:=I.base.tbls b ps q;exact ⟨more,by rw [zap (zaK z hp)];exact z⟩ }
 loc:=I.loc
 cell:=I.cell
 free:=by rw [zap (Ne.symm hL)];exact I.free
 freeC:=fun x c q=>by rw [zap (hC x c q)];exact I.freeC x c q
 pin:=fun q hq=>by
  obtain ⟨a,b,c⟩:=I.pin q hq
  exact ⟨a,by rw [zap (hP q hq)];exact b,c⟩
 hok:=hok
 len:=I.len
theorem zn6 {P:Program} {w:World} {K:PySem.W.Frag} {elts:List Expr} {x1:Nat} {tp:Pos} (a e it:Addr) (hne:e ≠ it):Turn P w K (.Tuple elts x1 tp) (Ite K a) [e,it] e (fun i h=>(∃ old,IsEnum h e it (i:Int) old)∧h.IsListIter it a i) where
 mem:=by simp
 obj:=fun i h st b hb=>by
  obtain ⟨⟨old,st1⟩,o,q,c,d⟩:=st
  rcases List.mem_cons.mp hb with z | z
  ·subst z;exact ⟨_,st1,fun v z=>by cases z⟩
  ·have z:b=it:=by simpa using z
   subst z;exact ⟨o,q,fun v z=>by rw [d] at z;cases z⟩
 keep:=fun i h h' st k=>⟨let ⟨old,q⟩:=st.1; ⟨old,k e (by simp) _ q⟩,st.2.at fun o q=>k it (by simp) o q⟩
 item:=by
  intro X hP hw hK hc i pins s σ H E I hf st hg
  subst hP hw hK
  obtain ⟨⟨old,st1⟩,st2⟩:=st
  obtain ⟨xs,x,hq,hx⟩:=hg
  obtain ⟨its,rv,p,hz⟩:=I.list hq
  obtain ⟨u,hu,ru⟩:=rv.get hx
  have fe:=hf e (by simp)
  have ft:=hf it (by simp)
  have hse:e < s.heap.objs.size:=Heap.lt_size st1
  have hsi:it < s.heap.objs.size:=let ⟨_,q,_⟩:=st2;Heap.lt_size q
  refine wpAny_pyNext_enum_item st1 st2 p.isList (x:=u) (by simpa using hu) hne fun h1 e1 i1 t1 z1 k1=>?_
  refine ⟨_,rfl,wpAny_letOwnedTupleGo_enum (s:={ s with heap:=h1,toks:=s.toks + 1 }) e1 fun h2 e2 s2=>?_⟩
  have hp0:H s.heap.objs.size=none:=I.hok.fresh (Nat.le_refl _)
  have k2:∀ b o,b ≠ e→b ≠ it→s.heap.get? b=some o→h2.get? b=some o:=fun b o n1 n2 q=>s2.extBut b o n1 (k1 b o n1 n2 q)
  have t2:h2.get? s.heap.objs.size=some { cls := .type "tuple",data := .seq #[.int (i:Int) s.toks,u] }:=s2.extBut _ _ (Nat.ne_of_gt hse) t1
  have I1:Inv X pins σ H { s with heap:=h2,toks:=s.toks + 1 }:=Inv.zqc (t':=s.toks + 1) I k2 fe ft
  have i2:h2.IsListIter it a (i + 1):=i1.extBut s2.extBut (Ne.symm hne)
  have hok:HOk X.prog X.w (upd H s.heap.objs.size (.tup [.int (i:Int),x])) h2:=by
   refine fun b o q=>?_
   by_cases eb:b=s.heap.objs.size
   ·subst eb
    rw [zaw] at q
    cases q
    exact ⟨by show 2 ≤ sizeLine;decide,[.int (i:Int) s.toks,u], .cons ⟨_,rfl⟩ (.cons ru .nil),⟨_,t2,rfl,_,rfl⟩⟩
   ·rw [zap eb] at q
    exact (I1.hok b o q).stay (fun c v _ z=>z) (fun c z=>by rw [zap (zaK z hp0)];exact z) fun c xs z=>by rw [zap (zaK z hp0)];exact z
  have fp:FpOk X pins H s.heap.objs.size:=I.fpOk (Nat.le_refl _) hp0
  have h0:X.s₀.heap.get? s.heap.objs.size=none:=by
   cases q:X.s₀.heap.get? s.heap.objs.size with
   | none=>rfl
   | some ob=>exact absurd (Nat.lt_of_lt_of_le (Heap.lt_size q) I.sz) (Nat.lt_irrefl _)
  have I2:Inv X pins σ (upd H s.heap.objs.size (.tup [.int (i:Int),x])) { s with heap:=h2,toks:=s.toks + 1 }:=Inv.ztO I1 hp0 h0 fp.2.1 fp.2.2.2.2.1 fp.2.2.2.2.2 hok
  refine ⟨.ref s.heap.objs.size,_,I2,rfl,⟨_,x,hp0,rfl,rfl,fun ys hy=>by rw [I.zlR hy hq];exact hx⟩,⟨⟨_,e2⟩,i2⟩,fun b hb=>?_⟩
  rcases List.mem_cons.mp hb with z | z
  ·subst z;rw [zap (Nat.ne_of_lt hse)];exact fe.1
  ·have z:b=it:=by simpa using z
   subst z;rw [zap (Nat.ne_of_lt hsi)];exact ft.1
 done:=by
  intro X hP hw hK hc i pins s σ H E I hf st hg
  subst hP hw hK
  obtain ⟨⟨old,st1⟩,st2⟩:=st
  obtain ⟨xs,hq,hx⟩:=hg
  obtain ⟨its,rv,p,hz⟩:=I.list hq
  obtain ⟨f0,f1,f2,f3,f4,f5⟩:=hf it (by simp)
  have hl:=rv.length
  exact wpAny_pyNext_enum_end (I.ok.hd hc) st1 st2 p.isList (by simp;omega) fun h' eb=>⟨rfl,I.turned (t':=s.toks) (fun b o hb e=>eb b o hb e) f0 f1 f3 f4 f5⟩
 self:=fun _ _ _ _ _ st h=>let ⟨_,q⟩:=st.1;wpAny_pyIter_enum q h
section
variable {X:Cx} {W:WX} {pos:Pos}
theorem zqy {elts:List Expr} {x1:Nat} {tp p:Pos} {l:Expr} {tl:TE} (hg:Gl X "enumerate") (hm:X.mg "enumerate" = none) (hl:PE X l tl) (hs:starEach [l] X.env=[(false,eval l X.env)]:=by rfl) :
  PI X (.Tuple elts x1 tp) (.Call (.Name "enumerate" p) [l] [] pos) (fun σ H R=>tl σ H fun x H1=>∃ a,x = .ref a∧(∃ xs,SqL X.K H1 a xs)∧R (Ite X.K a) H1):=by
 intro pins s σ H R I h
 refine wpAny_Call_Name_kw (zkg I hg hm boot_enumerate ?_)
 refine PyProof.Rows.callWith_type1 (thn (zgv hl zlF hs pos pins s σ H (fun vs H1=>match vs with
  | [x]=>∃ a,x=V.ref a∧(∃ xs,SqL X.K H1 a xs)∧R (Ite X.K a) H1
  | _=>False) I h) fun us s1 ⟨vs,H1,I1,r1,q1⟩=>?_) hs rfl
 match vs,q1 with
 | [x],q1 =>
 obtain ⟨a,e1,⟨xs,hq⟩,q⟩:=q1
 obtain ⟨u,rfl,ru⟩:=vals1 r1
 subst e1
 cases ru
 obtain ⟨its,rv,pl,hz⟩:=I1.list hq
 refine call_enumerate_list pl.isList fun h' hE hI hsz hk=>?_
 refine wpAny_pyIter_enum (s:={ s1 with heap:=h' }) hE ?_
 have I2:Inv X pins σ H1 { s1 with heap:=h' }:=I1.kept (t':=s1.toks) hk
 refine ⟨_,[s1.heap.objs.size + 1,s1.heap.objs.size],_,_,H1,rfl,I2,zn6 a _ _ (Nat.succ_ne_self _),⟨⟨.none,hE⟩,hI⟩,fun b hb=>?_,q⟩
 rcases List.mem_cons.mp hb with z | z
 ·subst z;exact I1.fpOk (Nat.le_succ _) (I1.hok.fresh (Nat.le_succ _))
 ·have z:b=s1.heap.objs.size:=by simpa using z
  subst z;exact I1.fpOk (Nat.le_refl _) (I1.hok.fresh (Nat.le_refl _))
def zaY:Nat→List A→List A
 | _,[]=>[]
 | n,x :: xs => .tup [.int (n:Int),x] :: zaY (n + 1) xs
theorem ziP:∀ (n:Nat) (xs:List A),(zaY n xs).length=xs.length
 | _,[]=>rfl
 | n,x :: xs=>by simp only [zaY,List.length_cons,ziP (n + 1) xs]
theorem zlQ:∀ (n i:Nat) (xs:List A),(zaY n xs)[i]? = xs[i]?.map fun x => .tup [.int ((n + i:Nat):Int),x]
 | _,_,[]=>by simp [zaY]
 | n,0,x :: xs=>by simp [zaY]
 | n,i + 1,x :: xs=>by
  simp only [zaY,List.getElem?_cons_succ]
  rw [zlQ (n + 1) i xs]
  have e:n + 1 + i=n + (i + 1):=by omega
  rw [e]
def enumSrc (a:A) (ds:List A):Src:=⟨zaY 0 ds,fun Ω=>zaH Ω a=some ds⟩
@[simp] def zjp (f:Ev→Mo A):Ev→Mo Src:=fun ρ=>mb (f ρ) fun a Ω=>match zaH Ω a with
 | some ds=>some (.ok (enumSrc a ds),Ω)
 | none=>none
theorem zoq {K:PySem.W.Frag} {G:Hp} {ι:List Addr} {p:Addr} {a:A} {ds:List A} (d:Den K G ι (.ref p) a):ItV K G ι (Ite K p) (enumSrc a ds):=by
 have key:∀ G' ι' Ω' H',Ext G ι G' ι'→Wd K G' ι' Ω' H'→zaH Ω' a=some ds→∃ xs,SqL K H' p xs∧DenL K G' ι' xs ds:=fun G' ι' Ω' H' e w h=>by
  obtain ⟨q,xs,h1,h2,h3⟩:=zcI w (d.ext e) h
  cases h1
  exact ⟨xs,h2,h3⟩
 refine ⟨fun G' ι' Ω' H' e w h i hi=>?_,fun G' ι' Ω' H' e w h i hi=>?_,fun G' ι' Ω' H' e w h i x H2 y hy hd=>?_⟩
 ·obtain ⟨xs,h2,h3⟩:=key G' ι' Ω' H' e w h
  have hl:i < xs.length:=by rw [h3.length,← ziP 0 ds];exact hi
  exact ⟨xs,xs[i],h2,List.getElem?_eq_getElem hl⟩
 ·obtain ⟨xs,h2,h3⟩:=key G' ι' Ω' H' e w h
  exact ⟨xs,h2,by rw [h3.length,← ziP 0 ds];exact hi⟩
 ·obtain ⟨xs,h2,h3⟩:=key G' ι' Ω' H' e w h
  obtain ⟨q,z,e1,e2,e3,e4⟩:=hd
  subst e2 e3
  have hy':(zaY 0 ds)[i]? = some y:=hy
  rw [zlQ] at hy'
  cases ed:ds[i]? with
  | none=>rw [ed] at hy';cases hy'
  | some d' =>
   rw [ed] at hy'
   cases hy'
   obtain ⟨z',q1,q2⟩:=h3.get ed
   rw [e4 xs h2] at q1
   cases q1
   refine ⟨upd G' q (.tup [.int (i:Int),z]),Ext.new (w.zgf e1) _,w.new e1 _,?_⟩
   simp only [Den]
   exact ⟨q,_,rfl,zaw, .cons (by simp only [Den,Nat.zero_add]) (.cons (q2.ext (Ext.new (w.zgf e1) _)) .nil)⟩
theorem zit {elts:List Expr} {x1:Nat} {tp p:Pos} {l:Expr} {fe:Ev→Mo A} (hg:Gl X "enumerate") (hm:X.mg "enumerate" = none) (h:VE X W l fe) (hs:starEach [l] X.env=[(false,eval l X.env)]:=by rfl) :
  VI X W (.Tuple elts x1 tp) (.Call (.Name "enumerate" p) [l] [] pos) (zjp fe):=by
 obtain ⟨t,p,s⟩:=h
 refine ⟨_,zqy hg hm p hs,fun G ι Ω H σ ρ R w r h=>?_⟩
 refine s G ι Ω H σ ρ _ w r (Post.mb h fun a Ω1 v H1 G1 ι1 x1 w1 d1 h1=>?_)
 cases e:zaH Ω1 a with
 | none=>simp only [e] at h1;exact False.elim h1
 | some ds =>
  simp only [e] at h1
  obtain ⟨q,xs,h2,h3,h4⟩:=zcI w1 d1 e
  subst h2
  exact ⟨q,rfl,⟨xs,h3⟩,h1 _ H1 G1 ι1 (Ext.refl _ _) w1 (zoq d1)⟩
end
end V2
namespace V2
open PySem PySem.Spec PyProof.Rows L2
def lcEv (n:Nat) (js:List Nat) (ρ:Ev):Ev:=List.replicate n none ++ js.map (fun j=>(ρ[j]?).join)
def VIf (X:Cx) (W:WX) (ifs:List Expr) (f:Ev→Mo Bool):Prop:=∃ t,PIf X ifs t∧Sim X.K relB W t f
abbrev yesM:Ev→Mo Bool:=fun _=>ret true
theorem zpR {X:Cx} {W:WX}:VIf X W [] yesM:=⟨_,zqp,fun _ _ _ _ _ _ _ w _ q=>zbk w rfl q⟩
theorem zk8 {X:Cx} {W:WX} {c:Expr} {f:Ev→Mo Bool} (h:VT X W c f):VIf X W [c] f:=let ⟨t,p,s⟩:=h; ⟨t,zqR p,s⟩
open Classical in
noncomputable def fLC (ok:Sto→Prop) (g:A→MS) (c:Ev→Mo Bool) (e:Ev→Mo A) (n:Nat):List A→Ev→Sto→Option (Ev × Sto)
 | [],ρ,Ω=>if ok Ω then some (ρ,Ω) else none
 | x :: xs,ρ,Ω=>if ok Ω then (match g x ρ Ω with
  | some (.nx,ρ1,Ω1)=>(match c ρ1 Ω1 with
   | some (.ok true,Ω2)=>(match e ρ1 Ω2 with
    | some (.ok y,Ω3)=>(match Ω3[n]? with
     | some (.lst ys)=>if ys.length < sizeLine then fLC ok g c e n xs ρ1 (Ω3.set n (.lst (ys ++ [y]))) else none
     | _=>none)
    | _=>none)
   | some (.ok false,Ω2)=>fLC ok g c e n xs ρ1 Ω2
   | _=>none)
  | _=>none) else none
open Classical in
noncomputable def zq3 (cf:Bool) (Ω1:Sto) (r:Option (Ev × Sto)):Option (Rs A × Sto):=match r with
 | some (_,Ω')=>(match Ω'[Ω1.length]? with
  | some (.lst ys)=>if cf then some (.ok (.cel Ω1.length),Ω') else if Ω'.take Ω1.length=Ω1∧ClL Ω1.length ys then some (.ok (.lst ys),Ω1) else some (.ok (.lst ys),Ω'.set Ω1.length .dead)
  | _=>none)
 | none=>none
noncomputable def vLC (cf:Bool) (n:Nat) (js:List Nat) (fi:Ev→Mo Src) (g:A→MS) (c:Ev→Mo Bool) (e:Ev→Mo A):Ev→Mo A:=fun ρ=>mb (fi ρ) fun S Ω1=>zq3 cf Ω1 (fLC S.ok g c e Ω1.length S.ds (lcEv n js ρ) (Ω1 ++ [.lst []]))
theorem zso {ok:Sto→Prop} {g:A→MS} {c:Ev→Mo Bool} {e:Ev→Mo A} {n:Nat} {xs:List A} {ρ:Ev} {Ω:Sto} {r:Ev × Sto} (h:fLC ok g c e n xs ρ Ω=some r):ok Ω:=by
 cases xs with
 | nil=>unfold fLC at h;by_cases hp:ok Ω;exact hp;rw [if_neg hp] at h;cases h
 | cons=>unfold fLC at h;by_cases hp:ok Ω;exact hp;rw [if_neg hp] at h;cases h
theorem zq9 {K:PySem.W.Frag} {G:Hp} {ι:List Addr} {σ:L2.St} {ρ:Ev} (ls:List Str) (js:List Nat) (r:EnvR K G ι σ ρ):EnvR K G ι (lcSt ls js σ) (lcEv ls.length js ρ):=by
 unfold lcSt lcEv
 refine ⟨by simp,fun i d h=>?_⟩
 by_cases hi:i < ls.length
 ·rw [List.getElem?_append_left (by simpa using hi)] at h
  rw [List.getElem?_replicate,if_pos hi] at h
  cases h
 ·rw [List.getElem?_append_right (by simpa using Nat.le_of_not_lt hi),List.length_replicate,List.getElem?_map] at h
  cases e:js[i - ls.length]? with
  | none=>rw [e] at h;cases h
  | some j =>
   rw [e] at h
   have h':(ρ[j]?).join=some d:=Option.some.inj h
   obtain ⟨v,q1,q2⟩:=r.2 j d (join_some h')
   refine ⟨v,?_,q2⟩
   rw [List.getElem?_append_right (by simpa using Nat.le_of_not_lt hi),List.length_map,List.getElem?_map,e]
   show some (σ[j]?).join=_
   rw [q1];rfl
section
variable {K:PySem.W.Frag} {W:WX}
theorem zsc {ls:List Str} {js:List Nat} {wi:TI} {tg:TG} {tc:TT} {te:TE} {fi:Ev→Mo Src} {g:A→MS} {c:Ev→Mo Bool} {e:Ev→Mo A} {cf:Bool} (W0:WX) (hi:Sim K (relI K) W wi fi) (hg:SimG K W0 tg g) (hc:Sim K relB W0 tc c) (he:Sim K (Den K) W0 te e) :
  Sim K (Den K) W (tLC ls js wi tg tc te) (vLC cf ls.length js fi g c e):=by
 intro G ι Ω H σ ρ Q w r h
 refine hi G ι Ω H σ ρ _ w r (Post.mb h fun S Ω1 J H1 G1 ι1 x1 w1 j1 h1=>?_)
 intro D hD
 unfold zq3 at h1
 cases er:fLC S.ok g c e Ω1.length S.ds (lcEv ls.length js ρ) (Ω1 ++ [.lst []]) with
 | none=>rw [er] at h1;exact False.elim h1
 | some rr =>
 obtain ⟨ρe,Ωe⟩:=rr
 rw [er] at h1
 simp only at h1
 have hw0:Wd K G1 (ι1 ++ [D]) (Ω1 ++ [.lst []]) (upd H1 D (.lst [])):=w1.cell hD ⟨w1.zgf hD,[],zaw, .nil⟩
 have r0:EnvR K G1 (ι1 ++ [D]) (lcSt ls js σ) (lcEv ls.length js ρ):=zq9 ls js (r.ext (x1.trans (Ext.cell D)))
 have hDk:(ι1 ++ [D])[Ω1.length]? = some D:=by rw [← w1.len];simp
 refine ⟨fun i m σ' H'=>m=S.ds.length - i∧i ≤ S.ds.length∧∃ G' ι' Ω' ρ',Ext G1 (ι1 ++ [D]) G' ι'∧Wd K G' ι' Ω' H'∧EnvR K G' ι' σ' ρ'∧fLC S.ok g c e Ω1.length (S.ds.drop i) ρ' Ω'=some (ρe,Ωe),
  ⟨_,rfl,Nat.zero_le _,G1,_,_,_,Ext.refl _ _,hw0,r0,by simpa using er⟩,?_⟩
 rintro i m σ' H' ⟨rfl,hil,G',ι',Ω',ρ',e',w',r',h'⟩
 have hok:=zso h'
 have eJ:Ext G1 ι1 G' ι':=(Ext.cell D).trans e'
 by_cases hlt:i < S.ds.length
 ·right
  refine ⟨j1.go G' ι' Ω' H' eJ w' hok i hlt,fun σ2 H2=>∃ G2 ι2 Ω2 ρ2,Ext G1 (ι1 ++ [D]) G2 ι2∧Wd K G2 ι2 Ω2 H2∧EnvR K G2 ι2 σ2 ρ2∧fLC S.ok g c e Ω1.length (S.ds.drop (i + 1)) ρ2 Ω2=some (ρe,Ωe),fun σ2 H2 n=>?_,fun x H2 y=>?_⟩
  ·exact ⟨S.ds.length - (i + 1),by omega,rfl,hlt,n⟩
  ·obtain ⟨G2,e2,w2,d2⟩:=j1.yld G' ι' Ω' H' eJ w' hok i x H2 S.ds[i] (List.getElem?_eq_getElem hlt) y
   rw [List.drop_eq_getElem_cons hlt] at h'
   unfold fLC at h'
   rw [if_pos hok] at h'
   refine hg G2 ι' Ω' H2 σ' ρ' x S.ds[i] ⟨_,fun _ _=>False,fun _ _=>False,fun _ _=>False⟩ w2 (r'.ext e2) d2 ?_
   revert h'
   generalize g S.ds[i] ρ' Ω'=q
   intro h'
   split at h'
   ·rename_i ρ3 Ω3
    intro σ3 H3 G3 ι3 x3 w3 r3
    refine hc G3 ι3 Ω3 H3 σ3 ρ3 _ w3 r3 ?_
    revert h'
    generalize c ρ3 Ω3=q2
    intro h'
    split at h'
    ·rename_i Ω4
     intro b H4 G4 ι4 x4 w4 hb
     cases (show b=true from hb)
     rw [if_pos rfl]
     refine he G4 ι4 Ω4 H4 σ3 ρ3 _ w4 (r3.ext x4) ?_
     revert h'
     generalize e ρ3 Ω4=q3
     intro h'
     split at h'
     ·rename_i z Ω5
      intro v H5 G5 ι5 x5 w5 d5
      split at h'
      ·rename_i ys ey
       split at h'
       ·rename_i hl
        have eD:=(((e'.trans e2).trans x3).trans x4).trans x5
        have hk:=eD.pre _ _ hDk
        obtain ⟨gg,xs,q1,q2⟩:=w5.cel _ _ D ey hk
        refine ⟨xs,q1,by rw [q2.length];exact hl,G5,ι5,_,ρ3,eD,w5.put (c := .lst (ys ++ [z])) hk gg ⟨gg,_,zaw,q2.append (.cons d5 .nil)⟩,(r3.ext x4).ext x5,h'⟩
       ·cases h'
      ·cases h'
     ·cases h'
    ·rename_i Ω4
     intro b H4 G4 ι4 x4 w4 hb
     cases (show b=false from hb)
     rw [if_neg (by simp)]
     exact ⟨G4,ι4,Ω4,ρ3,((e'.trans e2).trans x3).trans x4,w4,r3.ext x4,h'⟩
    ·cases h'
   ·cases h'
 ·have hie:i=S.ds.length:=by omega
  subst hie
  left
  refine ⟨j1.stop G' ι' Ω' H' eJ w' hok _ (Nat.le_refl _),?_⟩
  rw [List.drop_length] at h'
  unfold fLC at h'
  rw [if_pos hok] at h'
  cases h'
  split at h1
  ·rename_i ys ey
   have hk:=e'.pre _ _ hDk
   obtain ⟨gg,xs,q1,q2⟩:=w'.cel _ _ D ey hk
   split at h1
   ·exact h1 _ H' G' ι' eJ w' (by simp only [Den];exact ⟨D,rfl,hk⟩)
   ·have wf:=w'.freeze hk gg q1
    split at h1
    ·rename_i hcut
     have eC:Ext G1 ι1 (upd G' D (.lst xs)) ι':=eJ.trans (Ext.new gg _)
     have wc:=w1.cut wf eC (by rw [List.take_set_of_le (Nat.le_refl _)];exact hcut.1)
     refine h1 _ H' _ ι1 ⟨eC.same,fun _ _ q=>q⟩ wc ?_
     simp only [Den]
     exact ⟨D,xs,rfl,zaw,(q2.ext (Ext.new gg _)).cut eC.cut (by rw [w1.len];exact hcut.2)⟩
    ·refine h1 _ H' _ ι' (eJ.trans (Ext.new gg _)) wf ?_
     simp only [Den]
     exact ⟨D,xs,rfl,zaw,q2.ext (Ext.new gg _)⟩
  ·exact False.elim h1
end
def tCan {α β:Type} (K:PySem.W.Frag) (rel:Rl α β) (W:WX) (f:Ev→Mo α):L2.St→Hp→(β→Hp→Prop)→Prop:=fun σ H Q=>∃ G ι Ω ρ,Wd K G ι Ω H∧EnvR K G ι σ ρ∧Post K rel W G ι σ Q (f ρ Ω)
def zr2 (K:PySem.W.Frag) (W:WX) (g:A→MS):TG:=fun v σ H Q=>∃ G ι Ω ρ a D,Wd K G ι Ω H∧EnvR K G ι σ ρ∧Den K G ι v a∧zbx K W G ι D (g a ρ Ω)∧D.nx=Q
theorem zmt {α β:Type} {K:PySem.W.Frag} {rel:Rl α β} {W:WX} {f:Ev→Mo α}:Sim K rel W (tCan K rel W f) f:=fun G ι Ω H σ ρ Q w r h=>⟨G,ι,Ω,ρ,w,r,h⟩
theorem zo8 {K:PySem.W.Frag} {W:WX} {g:A→MS}:SimG K W (zr2 K W g) g:=fun G ι Ω H σ ρ v a D w r d h=>⟨G,ι,Ω,ρ,a,D,w,r,d,h,rfl⟩
theorem VE.can {X:Cx} {W:WX} {e:Expr} {f:Ev→Mo A} (h:VE X W e f):PE X e (tCan X.K (Den X.K) W f):=by
 obtain ⟨t,p,s⟩:=h
 exact fun pins sh σ H Q I ⟨G,ι,Ω,ρ,w,r,q⟩=>p pins sh σ H Q I (s G ι Ω H σ ρ Q w r q)
theorem VIf.can {X:Cx} {W:WX} {ifs:List Expr} {f:Ev→Mo Bool} (h:VIf X W ifs f):PIf X ifs (tCan X.K relB W f):=by
 obtain ⟨t,p,s⟩:=h
 exact fun pins sh σ H Q I ⟨G,ι,Ω,ρ,w,r,q⟩=>p pins sh σ H Q I (s G ι Ω H σ ρ Q w r q)
theorem VG.can {X:Cx} {W:WX} {tg:Expr} {g:A→MS} (h:VG X W tg g):PG X tg (zr2 X.K W g):=by
 obtain ⟨t,p,s⟩:=h
 exact fun pins sh σ H v u Q I rv ⟨G,ι,Ω,ρ,a,D,w,r,d,q,e⟩=>p pins sh σ H v u Q I rv (e ▸ s G ι Ω H σ ρ v a D w r d q)
abbrev noW:WX:=fun _ _ _ _=>False
theorem zoH {X:Cx} {W:WX} {elt tg iter:Expr} {ifs:List Expr} {scope:Scope} {pos:Pos} {fi:Ev→Mo Src} {g:A→MS} {c:Ev→Mo Bool} {e:Ev→Mo A} (cf:Bool) (ls:List Str) (js:List Nat) (hc:X.calm=true) (L:LcOk X scope ls js) (hi:VI X W tg iter fi)
  (hb:∀ cl C s H fp,VG (lcCx X scope ls js cl C s H fp) noW tg g∧VIf (lcCx X scope ls js cl C s H fp) noW ifs c∧VE (lcCx X scope ls js cl C s H fp) noW elt e)
  (hs:∀ x,foldedSetIterable iter X.env x=pure x:=by intro _;rfl):VE X W (.ListComp elt [⟨tg,iter,ifs,0⟩] scope pos) (vLC cf ls.length js fi g c e):=by
 obtain ⟨t1,p1,s1⟩:=hi
 exact ⟨_,ztq hc L p1 (fun cl C s H fp=>⟨(hb cl C s H fp).1.can,(hb cl C s H fp).2.1.can,(hb cl C s H fp).2.2.can⟩) hs,zsc _ s1 zo8 zmt zmt⟩
def rIsB (neg:Bool):R2:=fun x y H Q=>∃ b,y = .bl b∧Q (.bl (if neg then !decide (x = .bl b) else decide (x = .bl b))) H
theorem zta {x:V} {u:Value} {b:Bool} (r:RelV x u):(u == Value.bool b)=decide (x = .bl b)∧plainIs u (.bool b)=true:=by
 cases x with
 | non=>cases r;exact ⟨by simp,rfl⟩
 | bl c=>cases r;exact ⟨by cases c <;> cases b <;> simp,rfl⟩
 | int i=>obtain ⟨t,rfl⟩:=r;exact ⟨by simp,rfl⟩
 | str i=>obtain ⟨t,rfl⟩:=r;exact ⟨by simp,rfl⟩
 | byt i=>obtain ⟨t,rfl⟩:=r;exact ⟨by simp,rfl⟩
 | flt i=>obtain ⟨t,rfl⟩:=r;exact ⟨by simp,rfl⟩
 | ref i=>cases r;exact ⟨by simp,rfl⟩
 | ty i=>cases r;exact ⟨by simp,rfl⟩
theorem znF {X:Cx}:OpR X (compareOp .IsNot) (rIsB true):=by
 intro pins s σ H x y v u Q I rx ry h
 obtain ⟨b,rfl,q⟩:=h
 cases ry
 obtain ⟨e1,e2⟩:=zta (b:=b) rx
 exact wpAny_isNot_plain e2 (by rw [e1];exact ⟨.bl (!decide (x = .bl b)),H,I,rfl,q⟩)
def isBl (b:Bool):A→Bool
 | .bl c=>c == b
 | _=>false
theorem zpT {K:PySem.W.Frag} {G:Hp} {ι:List Addr} {v:V} {a:A} (b:Bool) (d:Den K G ι v a):isBl b a=decide (v = .bl b):=by
 cases a with
 | bl c=>simp only [Den] at d;subst d;rw [zsJ];rfl
 | tup ds=>simp only [Den] at d;obtain ⟨p,xs,rfl,_⟩:=d;simp [isBl]
 | lst ds=>simp only [Den] at d;obtain ⟨p,xs,rfl,_⟩:=d;simp [isBl]
 | scr ds=>simp only [Den] at d;obtain ⟨p,rfl,_⟩:=d;simp [isBl]
 | cel ds=>simp only [Den] at d;obtain ⟨p,rfl,_⟩:=d;simp [isBl]
 | gl x=>simp only [Den] at d;obtain ⟨p,_,rfl⟩:=d;simp [isBl]
 | exn p d' f i=>simp only [Den] at d;obtain ⟨rfl,_⟩:=d;simp [isBl]
 | _=>simp only [Den] at d;subst d;simp [isBl]
@[simp] def gIsB (neg:Bool):A→A→Mo A
 | a, .bl b=>ret (.bl (if neg then !isBl b a else isBl b a))
 | _,_=>stuck
theorem zpP {K:PySem.W.Frag} {W:WX} {neg:Bool}:OpV K W (rIsB neg) (gIsB neg):=by
 intro G ι Ω H σ x y a b Q w d1 d2 h
 cases b with
 | bl c =>
  simp only [Den] at d2
  refine ⟨c,d2,?_⟩
  rw [← zpT c d1]
  exact zbk w (by simp only [Den]) h
 | _=>exact False.elim h
theorem zou {X:Cx} {W:WX}:OpOk X W (compareOp .IsNot) (gIsB true):=⟨_,znF,zpP⟩
end V2
namespace V2
open PySem PySem.Spec PyProof.Rows L2
def sortI (ns:List Int):List Int:=ns.mergeSort fun a b=>decide (a ≤ b)
theorem sortI_perm (ns:List Int):(sortI ns).Perm ns:=List.mergeSort_perm ns _
theorem zi6 (ns:List Int):(sortI ns).Pairwise (· ≤ ·):=by
 have h:=List.pairwise_mergeSort (le:=fun a b:Int=>decide (a ≤ b)) (fun a b c h1 h2=>by simp at h1 h2 ⊢;omega) (fun a b=>by simp;omega) ns
 exact h.imp fun h=>of_decide_eq_true h
theorem zgI {ns ms:List Int} (p:ms.Perm ns) (h:ms.Pairwise (· ≤ ·)):ms=sortI ns :=
 List.Perm.eq_of_pairwise (le:=(· ≤ ·)) (fun a b _ _ h1 h2=>Int.le_antisymm h1 h2) h (zi6 ns) (p.trans (sortI_perm ns).symm)
theorem zdL (ns:List Int):(sortI ns).length=ns.length:=(sortI_perm ns).length_eq
section
variable {X:Cx} {W:WX}
theorem zgE:∀ {us:List Value} {ns:List Int},IntsAre us ns→Vals (ns.map V.int) us
 | _,_, .nil => .nil
 | _,_, .cons n t h => .cons ⟨t,rfl⟩ (zgE h)
theorem zkt:zfo X (.builtin "sorted") (fun xs H Q=>∃ (a:Addr) (ns:List Int),xs=[.ref a]∧SqL X.K H a (ns.map V.int)∧ns.length < 64∧∀ l,H l=none→Q (.ref l) (upd H l (.lst ((sortI ns).map V.int)))):=by
 intro pins s σ H xs us Q I r h
 obtain ⟨a,ns,rfl,hq,h64,q⟩:=h
 obtain ⟨u,rfl,ru⟩:=vals1 r
 cases ru
 obtain ⟨its,rv,pl,hz⟩:=I.list hq
 have hI:IntsAre its ns:=intsAre_of rv
 have hl:its.length=ns.length:=by rw [← rv.length,List.length_map]
 refine sorted_ints pl.isList hI (by omega) fun out ns' a1 a2 a3=>?_
 obtain ⟨e,he⟩:=sortedAll_at s.heap its out
 have hn:=zgI a2 a3
 subst hn
 refine ⟨.ref (s.heap.objs.size + 1),_,I.laid (t':=s.toks) (o := .lst ((sortI ns).map V.int)) (fun b o q=>sortedAll_old q) (Nat.le_succ _) ?_,rfl,q _ (I.hok.fresh (Nat.le_succ _))⟩
 exact ⟨by rw [List.length_map,zdL,sizeLine_eq];omega,out.toList,e,zgE a1,he⟩
@[simp] def znf (c:Bool) (as:List A):Mo A:=fun Ω=>match as with
 | [a]=>(match (zaH Ω a).bind intsOf with
  | some ns=>if ns.length < 64 then mkL c ((sortI ns).map A.int) Ω else none
  | none=>none)
 | _=>none
theorem zmV (c:Bool):zew X W (.builtin "sorted") (znf c):=by
 refine ⟨_,zkt,?_⟩
 intro G ι Ω H σ xs as Q w d h
 unfold znf at h
 split at h
 ·rename_i a
  split at h
  ·rename_i ns e
   split at h
   ·rename_i h64
    obtain ⟨x,rfl,d1⟩:=den1 d
    rw [Option.bind_eq_some_iff] at e
    obtain ⟨ds,e1,e2⟩:=e
    obtain ⟨p,ys,rfl,h2,h3⟩:=zcI w d1 e1
    rw [zhC e2 h3] at h2
    exact ⟨p,ns,rfl,h2,h64,fun l hl=>zhA w hl (zfL _) h⟩
   ·exact False.elim h
  ·exact False.elim h
 ·exact False.elim h
end
end V2
namespace M
open PySem V2
noncomputable def zh9:MS :=
 (sSeq (sAsg (vOp (gMod) (vOp (gMul) (vOp (gAdd false) (vVar 0) (cI 1)) (vOp (gAdd false) (cI 48271) (vOp (gMul) (cI 118) (vVar 1)))) (cI 2147483629)) (gN 2))
  (sRet (vOp (gMod) (vOp (gAdd false) (vOp (gAdd false) (vOp (gMul) (vOp (gDiv) (vVar 2) (cI 977)) (cI 16807)) (vOp (gMul) (vVar 2) (vOp (gAdd false) (vOp (gMul) (vVar 1) (vVar 1)) (cI 7)))) (vVar 1)) (cI 2147483587))))
noncomputable def zbA:List A→Mo A:=fnF 3 zh9
end M
namespace M
open PySem V2
noncomputable def zb9:MS :=
 (sSeq (sAsg (vOp gIx (vVar 0) (cI 3)) (gN 2))
  (sSeq (sAsg (vIf (zay (vOp gGt (vVar 1) (cI 0))) (vOp gIx (vOp gIx (vVar 2) (vOp (gSub) (vVar 1) (cI 1))) (cI 1)) (cI 0)) (gN 3))
  (sSeq (sAsg (vIf (zay (vOp gLt (vVar 1) (vCl gLen (zad (vVar 2) a0)))) (vOp (gSub) (vOp gIx (vOp gIx (vVar 2) (vVar 1)) (cI 2)) (cI 1)) (vOp gIx (vVar 0) (cI 0))) (gN 4))
  (sRet (vTup (zad (vVar 3) (zad (vVar 4) a0)))))))
noncomputable def zaP:List A→Mo A:=fnF 5 zb9
end M
namespace M
open PySem V2
noncomputable def zdB:MS :=
 (sSeq (sAsg (vOp gIx (vVar 0) (cI 0)) (gN 1))
  (sSeq (sAsg (vOp gIx (vVar 0) (cI 1)) (gN 2))
  (sSeq (sAsg (vOp gIx (vVar 0) (cI 2)) (gN 3))
  (sSeq (sAsg (vOp gIx (vVar 0) (cI 3)) (gN 4))
  (sSeq (sIf (vOrT (zay (vOp gLt (vVar 1) (cI 0))) (vOrT (zay (vOp gLt (vVar 2) (cI 0))) (zay (vOp gLt (vVar 3) (cI 0)))))
   (sRet (cB false))
   sNx)
  (sRet (vOp gEq (vOp gEq (vVar 1) (cI 0)) (vOp gEq (vCl gLen (zad (vVar 4) a0)) (cI 0)))))))))
noncomputable def zbj:List A→Mo A:=fnF 5 zdB
noncomputable def zfx:MS :=
 (sRet (vAnd (vOp gEq (vOp gIx (vVar 0) (cI 1)) (vVar 1)) (vOp gEq (vOp gIx (vVar 0) (cI 2)) (vVar 1))))
noncomputable def zcm:List A→Mo A:=fnF 2 zfx
noncomputable def zet:MS :=
 (sSeq (sAsg (vOp gIx (vVar 0) (cI 1)) (gN 2))
  (sSeq (sAsg (vOp gIx (vVar 0) (cI 2)) (gN 3))
  (sRet (vAnd (vOp gLe (vVar 2) (vVar 3)) (vOp gLe (vOp (gSub) (vVar 3) (vVar 2)) (vVar 1))))))
noncomputable def zcs:List A→Mo A:=fnF 4 zet
noncomputable def zei:MS :=
 (sRet (vOr (vOp gEq (vOp gIx (vVar 1) (cI 0)) (vOp gIx (vVar 0) (cI 0))) (vOp gLe (vOp gIx (vVar 1) (cI 2)) (vOp (gAdd false) (vOp (gAdd false) (vOp gIx (vVar 0) (cI 1)) (vVar 2)) (cI 1)))))
noncomputable def zb0:List A→Mo A:=fnF 3 zei
noncomputable def zcK:MS :=
 (sSeq (sIf (vOrT (zay (vOp gLt (vOp gIx (vVar 1) (cI 0)) (vOp gIx (vVar 0) (cI 0)))) (vOrT (zay (vOp gLe (vOp gIx (vVar 1) (cI 1)) (vOp gIx (vVar 0) (cI 1)))) (zay (vOp gLe (vOp gIx (vVar 1) (cI 2)) (vOp gIx (vVar 0) (cI 2))))))
   (sRet (cB false))
   sNx)
  (sRet (vCl (zaz 3 zb0) (zad (vVar 0) (zad (vVar 1) (zad (vVar 2) a0))))))
noncomputable def zbf:List A→Mo A:=fnF 3 zcK
noncomputable def zdd:MS :=
 (sSeq (sAsg (vOp gIx (vVar 0) (cI 0)) (gN 2))
  (sSeq (sAsg (vOp gIx (vVar 0) (cI 1)) (gN 3))
  (sSeq (sAsg (vOp gIx (vVar 0) (cI 3)) (gN 4))
  (sSeq (sAsg (vOp gIx (vVar 4) (vVar 1)) (gN 5))
  (sSeq (sIf (zh6 (zay (vOp gEq (vVar 1) (cI 0))) (zgR (zay (vCl (zaz 2 zcm) (zad (vVar 5) (zad (cI 1) a0))))))
   (sRet (cB false))
   sNx)
  (sSeq (sIf (zh6 (zay (vOp gEq (vVar 1) (vOp (gSub) (vCl gLen (zad (vVar 4) a0)) (cI 1)))) (zgR (zay (vCl (zaz 2 zcm) (zad (vVar 5) (zad (vVar 2) a0))))))
   (sRet (cB false))
   sNx)
  (sSeq (sIf (zgR (zay (vCl (zaz 2 zcs) (zad (vVar 5) (zad (vVar 3) a0)))))
   (sRet (cB false))
   sNx)
  (sRet (vOr (vOp gEq (vVar 1) (cI 0)) (vCl (zaz 3 zbf) (zad (vOp gIx (vVar 4) (vOp (gSub) (vVar 1) (cI 1))) (zad (vVar 5) (zad (vVar 3) a0)))))))))))))
noncomputable def zbt:List A→Mo A:=fnF 6 zdd
end M
namespace V2
open PySem PySem.Spec PyProof.Rows L2
def valA (kvs:List (Key × A)) (k:Key):Option A:=(kvs.find? fun kv=>decide (kv.1=k)).map (·.2)
def putA (kvs:List (Key × A)) (k:Key) (a:A):List (Key × A) :=
 if kvs.any fun kv=>decide (kv.1=k) then kvs.map (fun kv=>if kv.1=k then (kv.1,a) else kv) else kvs ++ [(k,a)]
def keyA:A→Option Key
 | .int i=>some (.inl i)
 | .str x=>some (.inr x)
 | _=>none
section
variable {K:PySem.W.Frag} {G:Hp} {ι:List Addr}
theorem ziE {v:V} {a:A} {k:Key} (d:Den K G ι v a) (h:keyA a=some k):v=kV k:=by
 cases a with
 | int i=>simp only [keyA,Option.some.injEq] at h;subst h;simp only [Den] at d;exact d
 | str i=>simp only [keyA,Option.some.injEq] at h;subst h;simp only [Den] at d;exact d
 | _=>simp [keyA] at h
theorem ziZ {k:Key}:∀ {ws:List (Key × V)} {kvs:List (Key × A)},ws.map (·.1)=kvs.map (·.1)→DenL K G ι (ws.map (·.2)) (kvs.map (·.2))→(∀ a,valA kvs k=some a→∃ v,valV ws k=some v∧Den K G ι v a)∧(valA kvs k=none→valV ws k=none)
 | [],[],_,_=>⟨fun a h=>(by cases h),fun _=>rfl⟩
 | [],_ :: _,h,_=>by simp at h
 | _ :: _,[],h,_=>by simp at h
 | p :: ws,q :: kvs,h,d=>by
  simp only [List.map_cons,List.cons.injEq] at h
  obtain ⟨x,r,e,d1,d2⟩:=d.zcM
  simp only [List.map_cons,List.cons.injEq] at e
  obtain ⟨e1,e2⟩:=e
  obtain ⟨i1,i2⟩:=ziZ (k:=k) h.2 (e2 ▸ d2)
  by_cases hk:q.1=k
  ·have hp:p.1=k:=h.1.trans hk
   refine ⟨fun a ha=>?_,fun hn=>?_⟩
   ·simp only [valA,List.find?_cons,hk,decide_true,Option.map_some,Option.some.injEq] at ha
    exact ⟨p.2,by simp [valV,hp],by rw [← ha,e1];exact d1⟩
   ·simp [valA,hk] at hn
  ·have hp:¬ p.1=k:=fun z=>hk (h.1.symm.trans z)
   have ev:valV (p :: ws) k=valV ws k:=by simp [valV,hp]
   have ea:valA (q :: kvs) k=valA kvs k:=by simp [valA,hk]
   rw [ev,ea]
   exact ⟨i1,i2⟩
theorem zmy {k:Key} {ws:List (Key × V)} {kvs:List (Key × A)} (h:ws.map (·.1)=kvs.map (·.1)):(ws.any fun kv=>decide (kv.1=k))=(kvs.any fun kv=>decide (kv.1=k)):=by
 have e1:(ws.any fun kv=>decide (kv.1=k))=(ws.map (·.1)).any fun x=>decide (x=k):=by rw [List.any_map];rfl
 have e2:(kvs.any fun kv=>decide (kv.1=k))=(kvs.map (·.1)).any fun x=>decide (x=k):=by rw [List.any_map];rfl
 rw [e1,e2,h]
theorem zoi {k:Key} {v:V} {a:A} {ws:List (Key × V)} {kvs:List (Key × A)} (h:ws.map (·.1)=kvs.map (·.1)):(putK ws k v).map (·.1)=(putA kvs k a).map (·.1):=by
 unfold putK putA
 rw [zmy h]
 split
 ·rw [List.map_map,List.map_map]
  have e1:ws.map ((·.1) ∘ fun kv:Key × V=>if kv.1=k then (kv.1,v) else kv)=ws.map (·.1):=List.map_congr_left fun x _=>by simp only [Function.comp];split <;> rfl
  have e2:kvs.map ((·.1) ∘ fun kv:Key × A=>if kv.1=k then (kv.1,a) else kv)=kvs.map (·.1):=List.map_congr_left fun x _=>by simp only [Function.comp];split <;> rfl
  rw [e1,e2,h]
 ·rw [List.map_append,List.map_append,h];rfl
theorem zlu {k:Key} {v:V} {a:A} (dv:Den K G ι v a):∀ {ws:List (Key × V)} {kvs:List (Key × A)},ws.map (·.1)=kvs.map (·.1)→DenL K G ι (ws.map (·.2)) (kvs.map (·.2))→DenL K G ι ((ws.map fun kv=>if kv.1=k then (kv.1,v) else kv).map (·.2)) ((kvs.map fun kv=>if kv.1=k then (kv.1,a) else kv).map (·.2))
 | [],[],_,_ => .nil
 | [],_ :: _,h,_=>by simp at h
 | _ :: _,[],h,_=>by simp at h
 | p :: ws,q :: kvs,h,d=>by
  simp only [List.map_cons,List.cons.injEq] at h
  obtain ⟨x,r,e,d1,d2⟩:=d.zcM
  simp only [List.map_cons,List.cons.injEq] at e
  obtain ⟨e1,e2⟩:=e
  have ih:=zlu (k:=k) dv h.2 (e2 ▸ d2)
  simp only [List.map_cons]
  refine .cons ?_ ih
  rw [h.1]
  split
  ·exact dv
  ·rw [e1];exact d1
theorem zpX {k:Key} {v:V} {a:A} {ws:List (Key × V)} {kvs:List (Key × A)} (h:ws.map (·.1)=kvs.map (·.1)) (d:DenL K G ι (ws.map (·.2)) (kvs.map (·.2))) (dv:Den K G ι v a):DenL K G ι ((putK ws k v).map (·.2)) ((putA kvs k a).map (·.2)):=by
 unfold putK putA
 rw [zmy h]
 split
 ·exact zlu dv h d
 ·rw [List.map_append,List.map_append]
  exact d.append (.cons dv .nil)
def zfQ (Ω:Sto):A→Option (Nat × List (Key × A))
 | .cel k=>match Ω[k]? with
  | some (.dct kvs)=>some (k,kvs)
  | _=>none
 | _=>none
theorem zfg {H:Hp} {Ω:Sto} {v:V} {a:A} {k:Nat} {kvs:List (Key × A)} (w:Wd K G ι Ω H) (d:Den K G ι v a) (h:zfQ Ω a=some (k,kvs)):∃ p ws,v = .ref p∧ι[k]? = some p∧G p=none∧H p=some (.dK ws)∧ws.map (·.1)=kvs.map (·.1)∧DenL K G ι (ws.map (·.2)) (kvs.map (·.2)):=by
 cases a with
 | cel j =>
  simp only [zfQ] at h
  split at h
  ·rename_i es e
   cases h
   simp only [Den] at d
   obtain ⟨p,rfl,hk⟩:=d
   obtain ⟨g,ws,h3,h4,h5⟩:=w.cel k _ p e hk
   exact ⟨p,ws,rfl,hk,g,h3,h4,h5⟩
  ·cases h
 | _=>simp [zfQ] at h
theorem zfW {Ω:Sto} {k:Nat} {kvs:List (Key × A)} (h:Ω[k]? = some (.dct kvs)):zfQ Ω (.cel k)=some (k,kvs):=by simp [zfQ,h]
end
section
variable {X:Cx} {W:WX} {o i e:Expr} {pos:Pos} {fo fi fe:Ev→Mo A}
@[simp] def zqN:Ev→Mo A:=fun _ Ω=>some (.ok (.cel Ω.length),Ω ++ [.dct []])
theorem znJ:VE X W (.Dict [] [] pos) zqN:=by
 refine ⟨_,zoQ,fun G ι Ω H σ ρ Q w r h=>?_⟩
 intro p hp
 refine h _ _ G (ι ++ [p]) (Ext.cell p) (w.cell hp ⟨w.zgf hp,[],zaw,rfl, .nil⟩) ?_
 simp only [Den]
 exact ⟨p,rfl,by rw [← w.len];simp⟩
@[simp] def zpb (o i:A):Mo A:=fun Ω=>match zfQ Ω o,keyA i with
 | some (_,kvs),some k=>match valA kvs k with
  | some a=>some (.ok a,Ω)
  | none=>none
 | _,_=>none
theorem zns (hu:X.A.units + 1 < cLine) (ho:VE X W o fo) (hi:VE X W i fi) (hs:NoSl i):VE X W (.Subscript o i pos) (vOp zpb fo fi):=by
 obtain ⟨t,p1,s1⟩:=ho
 obtain ⟨u,p2,s2⟩:=hi
 refine ⟨_,zpQ hu p1 p2 hs,fun G ι Ω H σ ρ Q w r h=>?_⟩
 refine s1 G ι Ω H σ ρ _ w r (Post.mb h fun x Ω1 v H1 G1 ι1 x1 w1 d1 h1=>?_)
 refine s2 G1 ι1 Ω1 H1 σ ρ _ w1 (r.ext x1) (Post.mb h1 fun y Ω2 u H2 G2 ι2 x2 w2 d2 h2=>?_)
 unfold zpb at h2
 split at h2
 ·rename_i k0 kvs k e1 e2
  split at h2
  ·rename_i a ea
   obtain ⟨p,ws,rfl,hk,g,q1,q2,q3⟩:=zfg w2 (d1.ext x2) e1
   obtain ⟨v',v1,v2⟩:=(ziZ q2 q3).1 a ea
   rw [ziE d2 e2]
   exact ⟨p,v',rfl,by rw [← v1];exact DGet.k q1,h2 v' H2 G2 ι2 (Ext.refl _ _) w2 v2⟩
  ·exact False.elim h2
 ·exact False.elim h2
@[simp] def zpK (o i z:A):Mo A:=fun Ω=>match zfQ Ω o,keyA i with
 | some (_,kvs),some k=>some (.ok ((valA kvs k).getD z),Ω)
 | _,_=>none
def isD (Ω:Sto) (a:A):Prop:=∃ k kvs,zfQ Ω a=some (k,kvs)
open Classical in
@[simp] noncomputable def zpM (fo fi fe:Ev→Mo A):Ev→Mo A:=fun ρ=>mb (fo ρ) fun o Ω=>if isD Ω o then mb (fi ρ) (fun i=>mb (fe ρ) fun z=>zpK o i z) Ω else none
theorem zpl {apos:Pos} (hu:X.A.units + 1 < cLine) (ho:VE X W o fo) (hi:VE X W i fi) (he:VE X W e fe) (m:M2 X o "get" apos i e pos):VE X W (.Call (.Attribute o "get" apos) [i,e] [] pos) (zpM fo fi fe):=by
 obtain ⟨t,p1,s1⟩:=ho
 obtain ⟨u,p2,s2⟩:=hi
 obtain ⟨u',p3,s3⟩:=he
 refine ⟨_,zoU hu p1 p2 p3 m,fun G ι Ω H σ ρ Q w r h=>?_⟩
 refine s1 G ι Ω H σ ρ _ w r (Post.mb h fun x Ω1 v H1 G1 ι1 x1 w1 d1 h1=>?_)
 split at h1
 ·rename_i hd
  obtain ⟨k0,kvs0,e0⟩:=hd
  obtain ⟨p,ws,rfl,hk,g,q1,q2,q3⟩:=zfg w1 d1 e0
  refine ⟨p,rfl, .inl ⟨ws, .inl q1⟩,?_⟩
  refine s2 G1 ι1 Ω1 H1 σ ρ _ w1 (r.ext x1) (Post.mb h1 fun y Ω2 u H2 G2 ι2 x2 w2 d2 h2=>?_)
  refine s3 G2 ι2 Ω2 H2 σ ρ _ w2 ((r.ext x1).ext x2) (Post.mb h2 fun z Ω3 u3 H3 G3 ι3 x3 w3 d3 h3=>?_)
  unfold zpK at h3
  split at h3
  ·rename_i k1 kvs k e1 e2
   obtain ⟨p',ws',hp',hk',g',r1,r2,r3⟩:=zfg w3 (d1.ext (x2.trans x3)) e1
   cases hp'
   rw [ziE (d2.ext x3) e2]
   refine ⟨valV ws' k,DGet.k r1,?_⟩
   obtain ⟨i1,i2⟩:=ziZ (k:=k) r2 r3
   cases ev:valA kvs k with
   | none =>
    rw [ev] at h3
    rw [i2 ev]
    exact h3 _ H3 G3 ι3 (Ext.refl _ _) w3 d3
   | some a =>
    rw [ev] at h3
    obtain ⟨v',v1,v2⟩:=i1 a ev
    rw [v1]
    exact h3 _ H3 G3 ι3 (Ext.refl _ _) w3 v2
  ·exact False.elim h3
 ·exact False.elim h1
@[simp] def setD (o i v:A) (Ω:Sto):Option Sto:=match zfQ Ω o,keyA i with
 | some (k,kvs),some key=>if kvs.length < sizeLine then some (Ω.set k (.dct (putA kvs key v))) else none
 | _,_=>none
@[simp] def zm5 (fe fo fi:Ev→Mo A):MS:=fun ρ=>sM (fe ρ) ρ fun a=>sM (fo ρ) ρ fun o=>sM (fi ρ) ρ fun i Ω=>match setD o i a Ω with
 | some Ω'=>some (.nx,ρ,Ω')
 | none=>none
theorem zmX {pos':Pos} (hu:X.A.units + 1 < cLine) (ho:VE X W o fo) (hi:VE X W i fi) (he:VE X W e fe) (hs:swapsWith e (some (.Subscript o i pos')) pos.line X.env=pure false:=by rfl):VS X W (.Assign [.Subscript o i pos'] e pos) (zm5 fe fo fi):=by
 obtain ⟨t,p1,s1⟩:=ho
 obtain ⟨u,p2,s2⟩:=hi
 obtain ⟨u',p3,s3⟩:=he
 refine ⟨_,zrd hu p1 p2 p3 hs,fun G ι Ω H σ ρ D w r h=>?_⟩
 refine s3 G ι Ω H σ ρ _ w r (zbx.sM h r fun z Ω1 v H1 G1 ι1 x1 w1 d1 h1=>?_)
 refine s1 G1 ι1 Ω1 H1 σ ρ _ w1 (r.ext x1) (zbx.sM h1 (r.ext x1) fun x Ω2 vo H2 G2 ι2 x2 w2 d2 h2=>?_)
 refine s2 G2 ι2 Ω2 H2 σ ρ _ w2 ((r.ext x1).ext x2) (zbx.sM h2 ((r.ext x1).ext x2) fun y Ω3 vi H3 G3 ι3 x3 w3 d3 h3=>?_)
 unfold setD at h3
 split at h3
 ·rename_i Ω' e'
  split at e'
  ·rename_i k kvs key e1 e2
   split at e'
   ·rename_i hl
    cases e'
    obtain ⟨p,ws,rfl,hk,g,q1,q2,q3⟩:=zfg w3 (d2.ext x3) e1
    rw [ziE d3 e2]
    have hwl:ws.length=kvs.length:=by have:=congrArg List.length q2;simpa using this
    refine ⟨p,_,rfl,DPut.k q1 (by rw [hwl];exact hl),?_⟩
    exact zja (w3.put (c := .dct (putA kvs key z)) hk g ⟨g,_,zaw,zoi q2,zpX q2 q3 (d1.ext (x2.trans x3))⟩) (((r.ext x1).ext x2).ext x3) h3
   ·cases e'
  ·cases e'
 ·exact False.elim h3
@[simp] def gDIn (neg:Bool) (i o:A):Mo A:=fun Ω=>match zfQ Ω o,keyA i with
 | some (_,kvs),some k=>some (.ok (.bl (if neg then !(valA kvs k).isSome else (valA kvs k).isSome)),Ω)
 | _,_=>none
theorem zqx {K:PySem.W.Frag} {neg:Bool} {ty td:TE} (h1:Sim K (Den K) W ty fi) (h2:Sim K (Den K) W td fo):Sim K (Den K) W (if neg then znC ty td else tDIn ty td) (vOp (gDIn neg) fi fo):=by
 have key:∀ G ι Ω H σ ρ (Q:VK),Wd K G ι Ω H→EnvR K G ι σ ρ→Post K (Den K) W G ι σ Q (vOp (gDIn neg) fi fo ρ Ω)→ty σ H fun y H1=>td σ H1 fun x H2=>∃ a o,x = .ref a∧DGet H2 a y o∧Q (.bl (if neg then !o.isSome else o.isSome)) H2:=by
  intro G ι Ω H σ ρ Q w r h
  refine h1 G ι Ω H σ ρ _ w r (Post.mb h fun y Ω1 v H1 G1 ι1 x1 w1 d1 h1'=>?_)
  refine h2 G1 ι1 Ω1 H1 σ ρ _ w1 (r.ext x1) (Post.mb h1' fun x Ω2 u H2 G2 ι2 x2 w2 d2 h2'=>?_)
  unfold gDIn at h2'
  split at h2'
  ·rename_i k0 kvs k e1 e2
   obtain ⟨p,ws,rfl,hk,g,q1,q2,q3⟩:=zfg w2 d2 e1
   rw [ziE (d1.ext x2) e2]
   refine ⟨p,valV ws k,rfl,DGet.k q1,?_⟩
   have eq:(valV ws k).isSome=(valA kvs k).isSome:=by
    obtain ⟨i1,i2⟩:=ziZ (k:=k) q2 q3
    cases ev:valA kvs k with
    | none=>simp [i2 ev]
    | some a=>obtain ⟨v',v1,_⟩:=i1 a ev;simp [v1]
   rw [eq]
   exact h2' _ H2 G2 ι2 (Ext.refl _ _) w2 (by simp only [Den])
  ·exact False.elim h2'
 cases neg with
 | true=>exact key
 | false=>exact key
theorem zmz (hu:X.A.units + 1 < cLine) (hi:VE X W i fi) (ho:VE X W o fo) (h1:behindInMarks .NotIn o=false:=by rfl):VT X W (.Compare i [.NotIn] [o] pos) (zay (vOp (gDIn true) fi fo)):=by
 obtain ⟨t,p1,s1⟩:=hi
 obtain ⟨u,p2,s2⟩:=ho
 exact ⟨_,zrR (zmR hu p1 p2) h1,zir (zqx (neg:=true) s1 s2)⟩
def intKeys:List (Key × A)→Option (List Int)
 | []=>some []
 | (.inl i,_) :: r=>(intKeys r).map (i :: ·)
 | _=>none
theorem zim:∀ {kvs:List (Key × A)} {ns:List Int},intKeys kvs=some ns→kvs.map (·.1)=ns.map Sum.inl
 | [],ns,h=>by simp only [intKeys,Option.some.injEq] at h;subst h;rfl
 | (.inl i,_) :: r,ns,h=>by
  simp only [intKeys,Option.map_eq_some_iff] at h
  obtain ⟨ms,h1,rfl⟩:=h
  simp [zim h1]
 | (.inr i,_) :: r,ns,h=>by simp [intKeys] at h
@[simp] def zm4 (c:Bool) (as:List A):Mo A:=fun Ω=>match as with
 | [a]=>(match zfQ Ω a with
  | some (_,kvs)=>(match intKeys kvs with
   | some ns=>if ns.length < 64 then mkL c ((sortI ns).map A.int) Ω else none
   | none=>none)
  | none=>none)
 | _=>none
theorem zmM (hc:X.calm=true) (c:Bool):zew X W (.builtin "sorted") (zm4 c):=by
 refine ⟨_,zjG hc,?_⟩
 intro G ι Ω H σ xs as Q w d h
 unfold zm4 at h
 split at h
 ·rename_i a
  split at h
  ·rename_i k kvs e
   split at h
   ·rename_i ns en
    split at h
    ·rename_i h64
     obtain ⟨x,rfl,d1⟩:=den1 d
     obtain ⟨p,ws,rfl,hk,g,q1,q2,q3⟩:=zfg w d1 e
     refine ⟨p,ws,ns,rfl,q1,by rw [q2];exact zim en,h64,fun ms l hp hs hl=>?_⟩
     rw [zgI hp hs]
     exact zhA w hl (zfL _) h
    ·exact False.elim h
   ·exact False.elim h
  ·exact False.elim h
 ·exact False.elim h
end
end V2
namespace V2
open PySem PySem.Spec PyProof.Rows L2
section
variable {X:Cx} {W:WX} {x:Str} {e:Expr} {es:List Expr} {np cpos pos:Pos} {fs:Ev→Mo (List A)}
@[simp] def zlo (x:Str) (f:Ev→Mo (List A)):MS:=fun ρ=>sM (f ρ) ρ fun as Ω=>if as.length ≤ sizeLine then some (.exc ⟨x,[]⟩,ρ,Ω) else none
theorem zoB {C:Addr} (T:zgm X W) (hc:X.calm=true) (O:OwnE X.K C) (hg:Gl X x) (hm:X.mg x=some (.ref C)) (hK:PySem.W.nsIn X.K mainGlobals x=some (some (.ref C))) (ha:VA X W (e :: es) fs)
  (hdb:(x == ("__debug__" : Str))=false:=by decide) (he:starEach (e :: es) X.env=(false,eval e X.env) :: starEach es X.env:=by rfl) (hpl:(backTo cpos (starEach (e :: es) X.env)).any (·.1)=false:=by rfl) :
  VS X W (.Raise (some (.Call (.Name x np) (e :: es) [] cpos)) none pos) (zlo x fs):=by
 obtain ⟨t,p,s⟩:=ha
 refine ⟨_,zpo T hc O hg hm p hdb he hpl,fun G ι Ω H σ ρ D w r h=>?_⟩
 refine s G ι Ω H σ ρ _ w r (zbx.sM h r fun as Ω1 vs H1 G1 ι1 x1 w1 d1 h1=>?_)
 split at h1
 ·rename_i hl
  exact ⟨by rw [d1.length];exact hl,h1 σ H1 G1 ι1 (Ext.refl _ _) w1 (r.ext x1) _ _ ⟨⟨C,hK,rfl⟩, .inl ⟨rfl,rfl⟩⟩⟩
 ·exact False.elim h1
end
def VS0 (X:Cx) (W:WX) (st:Stmt) (f:MS):Prop:=∃ t,PS0 X st t∧SimS X.K W t f
def VSs0 (X:Cx) (W:WX) (st:List Stmt) (f:MS):Prop:=∃ t,PSs0 X st t∧SimS X.K W t f
section
variable {X:Cx} {W:WX} {st:Stmt} {rest:List Stmt} {f g:MS}
theorem VS.v0 (h:VS X W st f):VS0 X W st f:=let ⟨t,p,s⟩:=h; ⟨t,p.ps0,s⟩
theorem VSs.v0 (h:VSs X W rest f):VSs0 X W rest f:=let ⟨t,p,s⟩:=h; ⟨t,p.ps0,s⟩
theorem zfF (h1:VS0 X W st f) (h2:VSs0 X W rest g):VSs0 X W (st :: rest) (sSeq f g):=by
 obtain ⟨t,p1,s1⟩:=h1
 obtain ⟨u,p2,s2⟩:=h2
 exact ⟨_,zmE p1 p2,znl s1 s2⟩
end
def znO (K:PySem.W.Frag) (W:WX) (f:MS):TS:=fun D σ H=>∃ G ι Ω ρ,Wd K G ι Ω H∧EnvR K G ι σ ρ∧zbx K W G ι D (f ρ Ω)
theorem VSs.can {X:Cx} {W:WX} {st:List Stmt} {f:MS} (h:VSs X W st f):PSs X st (znO X.K W f):=by
 obtain ⟨t,p,s⟩:=h
 exact fun pins sh σ H D I ⟨G,ι,Ω,ρ,w,r,q⟩=>p pins sh σ H D I (s G ι Ω H σ ρ D w r q)
theorem VSs0.can {X:Cx} {W:WX} {st:List Stmt} {f:MS} (h:VSs0 X W st f):PSs0 X st (znO X.K W f):=by
 obtain ⟨t,p,s⟩:=h
 exact fun sh σ H D I ⟨G,ι,Ω,ρ,w,r,q⟩=>p sh σ H D I (s G ι Ω H σ ρ D w r q)
def zma (i:Nat):OS→OS
 | some (.exc _,_,_)=>none
 | some (o,ρ,Ω)=>some (o,ρ.set i none,Ω)
 | none=>none
section
variable {P:Program} {w:World} {K:PySem.W.Frag} {mg:Str→Option Value} {base:Heap}
theorem DefN.of0 {x:Str} {st:Stmt} {N ps:List Str} {k:Nat} {b:MS} (h:HasFn K mg x st) (S:zaq N ps (zab st))
  (bind:∀ (kV doc pm:Value) (an:Option Addr) (cdv ct:Value) (us:List Value),us.length=ps.length→bindArgs (PySem.W.fnOf x x (zan st) (zaj st) (zab st) .none kV doc pm an cdv ct) ⟨us,[]⟩ = pure (ps.zip us))
  (hbody:∀ (f:Addr) (cdv:Value) (A:Around) (outer:List Env) (s:Shared) (H:Hp) (E:XK),Room k (A.deeper (envOfC x (zab st) s.heap.objs.size f cdv)) →
   VSs0 (cxOf CX0 P w K mg base N x (zab st) f cdv A outer s H E).nox noW (zaj st) b):DefN P w K mg base x (k + 1) ps (fnF N.length b):=by
 refine Def.of0 h S bind (fun vs H Q E h=>h.1) fun f cdv A outer s H vs Q E hr hsp=>?_
 obtain ⟨t,p,q⟩:=hbody f cdv A outer s H E hr
 exact ⟨t,p,zhh (E:=fun _ _ _=>False) q hsp⟩
end
end V2
namespace V2
open PySem PySem.Spec PyProof.Rows L2
structure XTab (K:PySem.W.Frag) (rs ns:List Str):Prop where
 xc:∀ n ∈ ns,∀ D,PySem.W.nsIn K mainGlobals n=some (some (.ref D))→XC K D
 sub:∀ n ∈ rs,∀ m ∈ ns,∀ D C,PySem.W.nsIn K mainGlobals n=some (some (.ref D))→PySem.W.nsIn K mainGlobals m=some (some (.ref C))→PySem.W.subIn K (.ref D) (.ref C)=some (n == m || m == ("RankError" : Str))
 ve:∀ n ∈ rs,∀ D,PySem.W.nsIn K mainGlobals n=some (some (.ref D))→PySem.W.subIn K (.ref D) (.type "ValueError")=some true
 rn:∀ n ∈ rs,n ∈ ns
def xtab (rs ns:List Str) (n m:Str):Option Bool:=if n ∈ rs∧m ∈ ns then some (n == m || m == ("RankError" : Str)) else none
theorem XTab.own {K:PySem.W.Frag} {rs ns:List Str} (T:XTab K rs ns) (n m:Str) (b:Bool) (D C:Addr) (h:xtab rs ns n m=some b) (hn:PySem.W.nsIn K mainGlobals n=some (some (.ref D))) (hm:PySem.W.nsIn K mainGlobals m=some (some (.ref C))):PySem.W.kitOne K (.ref D) (.ref C)=some b:=by
 unfold xtab at h
 split at h
 ·rename_i q
  cases h
  exact zry (T.xc _ (T.rn _ q.1) _ hn) (T.xc _ q.2 _ hm) (T.sub _ q.1 _ q.2 _ _ hn hm)
 ·cases h
section
variable {K:PySem.W.Frag} {rs ns:List Str} {G:Hp} {ι:List Addr}
end
end V2
namespace V2
open PySem PySem.Spec PyProof.Rows L2
end V2
namespace V2
open PySem PySem.Spec PyProof.Rows L2
def ClsN (K:PySem.W.Frag) (mg:Str→Option Value) (x:Str):Prop:=∃ C,XC K C∧mg x=some (.ref C)∧PySem.W.nsIn K mainGlobals x=some (some (.ref C))
def OwnC (K:PySem.W.Frag) (mg:Str→Option Value) (x:Str):Prop:=∃ C,OwnE K C∧mg x=some (.ref C)∧PySem.W.nsIn K mainGlobals x=some (some (.ref C))
section
variable {X:Cx} {W:WX} {x y:Str} {e:Expr} {es:List Expr} {np cpos pos hpos:Pos} {fs:Ev→Mo (List A)}
theorem zjJ (T:zgm X W) (hc:X.calm=true) (O:OwnC X.K X.mg x) (hg:Gl X x) (ha:VA X W (e :: es) fs)
  (hdb:(x == ("__debug__" : Str))=false:=by decide) (he:starEach (e :: es) X.env=(false,eval e X.env) :: starEach es X.env:=by rfl) (hpl:(backTo cpos (starEach (e :: es) X.env)).any (·.1)=false:=by rfl) :
  VS X W (.Raise (some (.Call (.Name x np) (e :: es) [] cpos)) none pos) (zlo x fs):=by
 obtain ⟨C,h0,h1,h2⟩:=O
 exact zoB T hc h0 hg h1 h2 ha hdb he hpl
end
theorem zfS {α:Type} {P:α→Prop}:∀ n ∈ ([] : List α),P n:=by simp
theorem zar {α:Type} {P:α→Prop} {a:α} {l:List α} (h:P a) (t:∀ n ∈ l,P n):∀ n ∈ a :: l,P n:=fun n hn=>by
 rcases List.mem_cons.mp hn with z | z
 ·exact z ▸ h
 ·exact t n z
theorem zdQ {K:PySem.W.Frag} {n:Str} {C:Addr} {P:Addr→Prop} (h:PySem.W.nsIn K mainGlobals n=some (some (.ref C))) (p:P C):∀ D,PySem.W.nsIn K mainGlobals n=some (some (.ref D))→P D:=fun D hD=>by
 rw [h] at hD;cases hD;exact p
theorem zbd {K:PySem.W.Frag} {n m:Str} {C C':Addr} {P:Addr→Addr→Prop} (h:PySem.W.nsIn K mainGlobals n=some (some (.ref C))) (h':PySem.W.nsIn K mainGlobals m=some (some (.ref C'))) (p:P C C'):∀ D D',PySem.W.nsIn K mainGlobals n=some (some (.ref D))→PySem.W.nsIn K mainGlobals m=some (some (.ref D'))→P D D':=fun D D' hD hD'=>by
 rw [h] at hD;rw [h'] at hD';cases hD;cases hD';exact p
theorem DefV.ofN {P:Program} {w:World} {K:PySem.W.Frag} {mg:Str→Option Value} {base:Heap} {x:Str} {k:Nat} {ps:List Str} {F:List A→Mo A} (D:DefN P w K mg base x k ps F):DefV P w K mg base x k ps (noX F):=by
 obtain ⟨f,fd,h1,h2,h3,h4⟩:=D.ex
 refine ⟨f,fd,⟨fun vs H Q E h=>h.1,fun A outer s H args us vs Q E hr e0 hb r hsp=>?_⟩,h2,h3,h4⟩
 refine codeAny_mono (h1.run A outer s H args us vs Q (fun _ _ _=>False) hr e0 hb r ?_) fun r s' hq=>?_
 ·obtain ⟨hl,G,ι,Ω,ds,w,d,p⟩:=hsp
  refine ⟨hl,G,ι,Ω,ds,w,d,?_⟩
  revert p
  unfold noX
  generalize F ds Ω=q2
  intro p
  match q2,p with
  | some (.ok a,Ω2),p=>exact p
 ·cases r with
  | error ev=>exact False.elim hq
  | ok v=>cases v <;> exact hq
end V2
namespace L2
open PySem PySem.Spec PyProof.Rows
theorem Room.zik {k:Nat} {A:Around} (r:Room k A):A.units + 1 < cLine:=by have:=r.units;omega
end L2
namespace V2
end V2
namespace L2
open PySem PySem.Spec PyProof.Rows
theorem Top1.nox {X:Cx} (t:Top1 X):Top1 X.nox:=⟨t.1,t.2,t.3⟩
theorem ziT {CX:CXT} {P:Program} {w:World} {K:PySem.W.Frag} {mg:Str→Option Value} {base:Heap} {N:List Str} {qual:Str} {scope:Scope} {f:Addr} {cd:Value} {A:Around} {outer:List Env} {s:Shared} {H:Hp} {E:XK}:Top1 (cxOf CX P w K mg base N qual scope f cd A outer s H E).nox:=Top1.nox zg0
theorem zmB {CX:CXT} {P:Program} {w:World} {K:PySem.W.Frag} {mg:Str→Option Value} {base:Heap} {N:List Str} {qual:Str} {scope:Scope} {f:Addr} {cd:Value} {A:Around} {outer:List Env} {s:Shared} {H:Hp} {E:XK} {W:WX} :
  zgm ((cxOf CX P w K mg base N qual scope f cd A outer s H E).nox.wish (XE (cxOf CX P w K mg base N qual scope f cd A outer s H E).nox W)) W:=zgm.of ziT rfl W
end L2
namespace M
open PySem V2
noncomputable def zd2:MS :=
 (zm5 (vOp (gAdd false) (zpM (vVar 1) (vVar 2) (cI 0)) (vVar 3)) (vVar 1) (vVar 2))
noncomputable def zhU:Ev→Mo A :=
 (vLC false 1 [1] (vSeq (vCl (zm4 false) (zad (vVar 1) a0))) (gN 0) yesM (vTup (zad (vVar 0) (zad (vOp zpb (vVar 1) (vVar 0)) a0))))
noncomputable def zgV:MS :=
 (sSeq (sAsg zqN (gN 1))
  (sSeq (sFor (vSeq (vVar 0)) (zcR 2 (zat (gN 2) (zat (gN 3) zcU))) zd2)
  (sRet zhU)))
noncomputable def zg1:List A→Mo A:=fnF 4 zgV
end M
namespace KS
open PySem PySem.W PyProof.Rows
def go {α:Type} (lt:Nat→Nat→Bool):KasT α→α
 | .ret a=>a
 | .ask i j k=>go lt (k (lt i j))
section
variable (r:Nat→Int)
abbrev ltR:Nat→Nat→Bool:=fun i j=>decide (r i < r j)
def Ky (p:Array Nat) (i:Nat):Int:=r (p.getD i 0)
def Up (p:Array Nat) (k:Nat):Prop:=∀ i j,i ≤ j→j < k→Ky r p i ≤ Ky r p j
variable {r}
theorem zrO {p q:Array Nat} {i j:Nat} (h:Ky r p i < Ky r q j):ltR r (p.getD i 0) (q.getD j 0)=true:=decide_eq_true h
theorem ztR {p q:Array Nat} {i j:Nat} (h:¬ Ky r p i < Ky r q j):ltR r (p.getD i 0) (q.getD j 0)=false:=decide_eq_false h
theorem place {p:Array Nat} {k:Nat} (hu:Up r p k):∀ (f l t:Nat),l ≤ t→t ≤ k→t - l ≤ f→(∀ i,i < l→Ky r p i ≤ Ky r p k)→(∀ i,t ≤ i→i < k→Ky r p k < Ky r p i) →
  ∃ m,go (ltR r) (kas_place p k f l t)=m∧m ≤ k∧(∀ i,i < m→Ky r p i ≤ Ky r p k)∧(∀ i,m ≤ i→i < k→Ky r p k < Ky r p i)
 | 0,l,t,h1,h2,h3,h4,h5=>⟨l,rfl,by omega,h4,fun i a b=>h5 i (by omega) b⟩
 | f + 1,l,t,h1,h2,h3,h4,h5=>by
  by_cases c:l ≥ t
  ·exact ⟨l,by simp only [kas_place,c,if_true,go],by omega,h4,fun i a b=>h5 i (by omega) b⟩
  ·by_cases d:Ky r p k < Ky r p ((l + t) / 2)
   ·have d':=zrO d
    obtain ⟨m,e,a1,a2,a3⟩:=place hu f l ((l + t) / 2) (by omega) (by omega) (by omega) h4 (fun i a b=>by
     have:=hu ((l + t) / 2) i a b
     omega)
    refine ⟨m,?_,a1,a2,a3⟩
    rw [← e]
    simp only [kas_place,c,if_false,go,d',if_true]
   ·have d':=ztR d
    obtain ⟨m,e,a1,a2,a3⟩:=place hu f ((l + t) / 2 + 1) t (by omega) h2 (by omega) (fun i a=>by
     have:=hu i ((l + t) / 2) (by omega) (by omega)
     omega) h5
    refine ⟨m,?_,a1,a2,a3⟩
    rw [← e]
    simp only [kas_place,c,if_false,go,d',Bool.false_eq_true]
end
end KS
namespace KS
open PySem PySem.W PyProof.Rows
def reach {α:Type} (lt:Nat→Nat→Bool) (N:Nat):KasT α→Prop
 | .ret _=>True
 | .ask i j k=>i < N∧j < N∧reach lt N (k (lt i j))
def Bd (N:Nat) (p:Array Nat):Prop:=0 < N∧∀ x ∈ p,x < N
section
variable {lt:Nat→Nat→Bool} {N:Nat}
theorem Bd.get {p:Array Nat} (h:Bd N p) (i:Nat):p.getD i 0 < N:=by
 rw [Array.getD_eq_getD_getElem?]
 cases e:p[i]? with
 | none=>exact h.1
 | some x=>exact h.2 x (Array.mem_of_getElem? e)
end
end KS
namespace KS
open PySem PySem.W PyProof.Rows
def lexB:List Int→List Int→Bool
 | [],[]=>false
 | [],_ :: _=>true
 | _ :: _,[]=>false
 | a :: as,b :: bs=>if a=b then lexB as bs else decide (a < b)
section
variable {prog:Program} {w:World} {A:Around} {E:Value→Shared→Prop} {s:Shared}
end
end KS
namespace KS
open PySem PySem.W PyProof.Rows
def TupAt (h:Heap) (v:Value) (ns:List Int):Prop:=∃ a o xs n,v = .ref a∧h.get? a=some o∧o.cls = .type "tuple"∧o.data = .seq xs n∧IntsAre xs.toList ns
def zey (h:Heap):List Value→List (List Int)→Prop
 | [],[]=>True
 | v :: vs,t :: ts=>TupAt h v t∧zey h vs ts
 | _,_=>False
theorem zey.len {h:Heap}:∀ {vs:List Value} {ts:List (List Int)},zey h vs ts→vs.length=ts.length
 | [],[],_=>rfl
 | _ :: _,_ :: _,t=>by simp [zey.len t.2]
 | [],_ :: _,t=>t.elim
 | _ :: _,[],t=>t.elim
theorem zey.get {h:Heap}:∀ {vs:List Value} {ts:List (List Int)},zey h vs ts→∀ i,i < ts.length→TupAt h (vs.getD i .none) (ts.getD i [])
 | [],[],_,i,hi=>by simp at hi
 | _ :: _,_ :: _,t,0,_=>t.1
 | _ :: _,_ :: _,t,i + 1,hi=>by simpa using zey.get t.2 i (by simpa using hi)
 | [],_ :: _,t,_,_=>t.elim
 | _ :: _,[],t,_,_=>t.elim
theorem zey.keeps {h h':Heap} (k:∀ b o,h.get? b=some o→o.cls = .type "tuple"→h'.get? b=some o):∀ {vs:List Value} {ts:List (List Int)},zey h vs ts→zey h' vs ts
 | [],[],_=>trivial
 | _ :: _,_ :: _,⟨⟨a,o,xs,n,h1,h2,h3,h4⟩,t⟩=>⟨⟨a,o,xs,n,h1,k _ _ h2 h3,h3,h4⟩,zey.keeps k t⟩
 | [],_ :: _,t=>t.elim
 | _ :: _,[],t=>t.elim
section
variable {prog:Program} {w:World} {A:Around} {E:Value→Shared→Prop} {s:Shared}
end
end KS
namespace V2
open PySem PySem.Spec PyProof.Rows L2 KS
def TupV (H:Hp):List V→List (List Int)→Prop
 | [],[]=>True
 | y :: ys,t :: ts=>(∃ b,y = .ref b∧H b=some (.tup (t.map V.int)))∧TupV H ys ts
 | _,_=>False
section
variable {X:Cx} {W:WX}
theorem TupV.len {H:Hp}:∀ {ys:List V} {ts:List (List Int)},TupV H ys ts→ys.length=ts.length
 | [],[],_=>rfl
 | _ :: _,_ :: _,t=>by simp [TupV.len t.2]
 | [],_ :: _,t=>t.elim
 | _ :: _,[],t=>t.elim
end
end V2
namespace V2
open PySem PySem.Spec PyProof.Rows L2
section
variable {X:Cx} {W:WX}
theorem zng (hc:X.calm=true):zfo X (.builtin "max") (fun xs H Q=>∃ i j k:Int,xs=[.int i, .int j, .int k]∧Q (.int (max (max i j) k)) H):=by
 intro pins s σ H xs us Q I r h
 obtain ⟨i,j,k,rfl,q⟩:=h
 cases r with
 | cons r1 r =>
  cases r with
  | cons r2 r =>
   cases r with
   | cons r3 r =>
    cases r
    obtain ⟨t1,rfl⟩:=r1
    obtain ⟨t2,rfl⟩:=r2
    obtain ⟨t3,rfl⟩:=r3
    refine max_three_ints (I.ok.hd hc) fun h' tk kk=>⟨_,H,I.kept kk,?_,q⟩
    by_cases h1:j > i
    ·rw [if_pos h1]
     by_cases h2:k > j
     ·rw [if_pos h2];exact ⟨t3,by congr 1;omega⟩
     ·rw [if_neg h2];exact ⟨t2,by congr 1;omega⟩
    ·rw [if_neg h1]
     by_cases h2:k > i
     ·rw [if_pos h2];exact ⟨t3,by congr 1;omega⟩
     ·rw [if_neg h2];exact ⟨t1,by congr 1;omega⟩
@[simp] def zqV (as:List A):Mo A:=match as with
 | [.int i, .int j, .int k]=>ret (.int (max (max i j) k))
 | _=>stuck
theorem zr4 (hc:X.calm=true):zew X W (.builtin "max") zqV:=by
 refine ⟨_,zng hc,?_⟩
 intro G ι Ω H σ xs as Q w d h
 unfold zqV at h
 split at h
 ·rename_i i j k
  simp only [DenL,Den] at d
  obtain ⟨_,_,rfl,rfl,_,_,rfl,rfl,_,_,rfl,rfl,rfl⟩:=d
  exact ⟨i,j,k,rfl,zbk w (by simp only [Den]) h⟩
 ·exact False.elim h
@[simp] def zn2 (as:List A):Mo A:=match as with
 | [.int i]=>ret (.int i)
 | [.bl b]=>ret (.int (if b then 1 else 0))
 | _=>stuck
theorem zpB:zew X W (.type "int") zn2:=by
 refine ⟨_,znK,?_⟩
 intro G ι Ω H σ xs as Q w d h
 unfold zn2 at h
 split at h
 ·rename_i i
  obtain ⟨x,rfl,d1⟩:=den1 d
  simp only [Den] at d1;subst d1
  exact .inl ⟨i,rfl,zbk w (by simp only [Den]) h⟩
 ·rename_i b
  obtain ⟨x,rfl,d1⟩:=den1 d
  simp only [Den] at d1;subst d1
  exact .inr ⟨b,rfl,zbk w (by simp only [Den]) h⟩
 ·exact False.elim h
end
end V2
namespace M
open PySem V2
end M
namespace V2
open PySem PySem.Spec PyProof PyProof.Rows L2
section
variable {X:Cx} {W:WX} {e a b:Expr} {es:List Expr} {pos:Pos} {fa fb:Ev→Mo A} {te:TE} {tl th tk:TO} {lo hi stp:Option Expr}
end
end V2
namespace L2
open PySem PySem.Spec PyProof.Rows
section
variable {X:Cx}
end
end L2
namespace V2
open PySem PySem.Spec PyProof.Rows L2
end V2
namespace L2
open PySem PySem.Spec PyProof.Rows
def zqY (ts:List Addr) (H:Hp):Prop:=∀ b,H b=none∨(∃ o xs,H b=some (.frz o (.lst xs)))∨(b ∈ ts∧H b=some (.tbl #[]))
def BltB (h:Heap) (mg:Str→Option Value):Prop:=∃ bm o,mg "__builtins__" = some (.ref bm)∧bm ≠ builtinsNs∧h.get? bm=some o∧o.cls = .type "module"∧o.dict=some builtinsNs∧o.data = .plain
theorem znr {P:Program} {w:World} {K:PySem.W.Frag} {mg mb:Str→Option Value} {CX:CXT} {k:Nat} {fa a:Addr} {fd:FuncData} {x:Str} {sp:Sp} {s₁:Shared} {vs:List Value} {ns:List Int} {ts:List Addr}
  (KX:K.In s₁.heap) (hns:s₁.heap.Ns mainGlobals mg) (hb:s₁.heap.Ns builtinsNs mb) (hbb:∀ x:Str,x ≠ "__name__"→mb x=bootBuiltins x) (hlim:s₁.heap.NoLimit) (hg:s₁.gens = #[])
  (hT:∀ P ∈ ts,s₁.heap.get? P=some (PySem.W.tabObj #[])) (hTK:PySem.W.noTabs K=true) (hTC:∀ P ∈ ts,isCodeTable s₁.heap P)
  (ha:s₁.heap.get? a=some { cls := .type "list",data := .seq vs.toArray }) (hi:IntsAre vs ns) (hl:ns.length ≤ sizeLine) (hr:Room k callerA)
  (hBl:BltB s₁.heap mg) (F:∀ base:Heap,K.In base→base.Ns mainGlobals mg→BltB base mg→FnOk P w K mg base CX k fa fd [x] sp) (hbind:∀ (s:Shared) (u:Value),BindsTo s fd ⟨[u],[]⟩ [(x,u)])
  (hsp:∀ H:Hp,zqY ts H→(∀ P ∈ ts,H P=some (.tbl #[]))→SqL K H a (ns.map V.int)→sp [.ref a] H (fun v _=>v = .bl true) fun _ _ _=>False)
  (hCX:∀ H e s',CX [] H s₁ (fun _ _ _=>False) e s'→False) :
  codeAny (model P w) callerA (.call (.ref fa) ⟨[.ref a],[]⟩) (fun r s'=>r = .ok (.ret (.bool true))∧OldK s₁.heap s'.heap∧s'.os=s₁.os∧AllBare s'.gens) s₁:=by
 have rv:=zhm hi
 have lenV:=hi.length
 have hKT:∀ b ∈ ts,K.lookup b=none:=fun b hb'=>by
  cases q:K.lookup b with
  | none=>rfl
  | some o =>
   have e:=KX b o q
   rw [hT b hb'] at e
   cases e
   exact absurd (show false=true from List.all_eq_true.mp hTK (b,_) (PySem.W.mem_of_lookupK q)) Bool.false_ne_true
 have haT:a ∉ ts:=fun z=>by
  have e:=hT a z
  rw [ha] at e;cases e
 have core:∀ H:Hp,zqY ts H→(∀ P ∈ ts,H P=some (.tbl #[]))→SqL K H a (ns.map V.int)→HOk P w H s₁.heap→(∀ b,H b ≠ none→b=a∨b ∈ ts)→(H a ≠ none→K.lookup a=none) →
   codeAny (model P w) callerA (.call (.ref fa) ⟨[.ref a],[]⟩) (fun r s'=>r = .ok (.ret (.bool true))∧OldK s₁.heap s'.heap∧s'.os=s₁.os∧AllBare s'.gens) s₁:=by
  intro H hO hTb hS hok hA hK
  have base_of:∀ {b:Addr} {o:Obj},s₁.heap.get? b=some o→H b=none→(hidT s₁.heap H).get? b=some o:=fun e n=>zo5 e n
  have noA:∀ {b:Addr} {o:Obj} {es:Array DictEntry} {ep:Nat},s₁.heap.get? b=some o→o.data = .dict es ep→H b=none:=fun {b o es ep} e d=>by
   cases q:H b with
   | none=>rfl
   | some u =>
    rcases hA b (by rw [q];simp) with e' | e'
    ·subst e'
     rw [ha] at e;cases e
     have d':Data.seq vs.toArray _=Data.dict es ep:=d
     cases d'
    ·rw [hT b e'] at e;cases e
     have d':Data.fields #[]=Data.dict es ep:=d
     cases d'
  have nsK:∀ {b:Addr} {m:Str→Option Value},s₁.heap.Ns b m→(hidT s₁.heap H).Ns b m:=fun {b m} ⟨o,es,ep,e,d,r⟩=>⟨o,es,ep,base_of e (noA e d),d,r⟩
  have hKb:K.In (hidT s₁.heap H):=fun b o e=>base_of (KX b o e) (by
   cases q:H b with
   | none=>rfl
   | some u =>
    rcases hA b (by rw [q];simp) with e' | e'
    ·subst e'
     rw [hK (by rw [q];simp)] at e;cases e
    ·rw [hKT b e'] at e;cases e)
  have hM:Mod K mg (hidT s₁.heap H):=⟨hKb,nsK hns,⟨mb,nsK hb,hbb⟩,let ⟨mc,h1,h2⟩:=hlim; ⟨mc,nsK h1,h2⟩⟩
  have e0:Env0 P w K mg (hidT s₁.heap H) callerA [] s₁ H:=⟨rfl,hM,fun b o e=>zqO e,Nat.le_of_eq (znq _ _),trivial,fun b hb=>absurd (show b ∈ ([] : List Addr) from hb) (by simp),hok, .of_eq hg⟩
  have hBb:BltB (hidT s₁.heap H) mg:=by
   obtain ⟨bm,o,b1,b2,b3,b4,b5,b6⟩:=hBl
   refine ⟨bm,o,b1,b2,base_of b3 ?_,b4,b5,b6⟩
   cases q:H bm with
   | none=>rfl
   | some u =>
    rcases hA bm (by rw [q];simp) with e' | e'
    ·subst e'
     rw [ha] at b3;cases b3
     exact absurd (show Value.type "list" = Value.type "module" from b4) (by decide)
    ·rw [hT bm e'] at b3;cases b3;cases b4
  refine codeAny_mono ((F _ hKb (nsK hns) hBb).run callerA [] s₁ H ⟨[.ref a],[]⟩ [.ref a] [.ref a] _ _ hr e0 (hbind s₁ (.ref a)) (.cons rfl .nil) (hsp H hO hTb hS)) fun r s' h=>?_
  cases r with
  | error e=>exact (hCX H e s' h).elim
  | ok fl =>
   cases fl with
   | next=>exact False.elim h
   | brk=>exact False.elim h
   | cont=>exact False.elim h
   | ret u =>
    obtain ⟨v,H',os,bare,un,hok',r',q⟩:=h
    have q':v = .bl true:=q
    subst q'
    obtain rfl:u=Value.bool true:=r'
    have key:∀ b o,s₁.heap.get? b=some o→s'.heap.get? b=some o∨(b ∈ ts∧∃ more,s'.heap.get? b=some { o with data := .fields (#[] ++ more) }):=fun b o e=>by
     cases q:H b with
     | none=>exact .inl (un.keep b o e q (by intro z;exact absurd (show b ∈ ([] : List Addr) from z) (by simp)) (by simp))
     | some u =>
      rcases hO b with z | ⟨ob,xs,z⟩ | ⟨hbt,z⟩
      ·rw [q] at z;cases z
      ·have z2:=un.frzs b ob _ z
       obtain ⟨e1,_⟩:=hok b _ z
       obtain ⟨e2,_⟩:=hok' b _ z2
       rw [e] at e1;cases e1
       exact .inl e2
      ·obtain ⟨more,z2⟩:=un.tbls b _ z
       have e2:=hok' b _ z2
       have e3:s'.heap.get? b=some { cls := .none,data := .fields (#[] ++ more) }:=e2
       have e4:=hT b hbt
       rw [e] at e4;cases e4
       exact .inr ⟨hbt,more,e3⟩
    refine ⟨rfl,⟨fun b o e=>?_,fun b o e=>?_⟩,os,bare⟩
    ·rcases key b o e with z | ⟨hbt,more,z⟩
     ·exact .inl z
     ·have e4:=hT b hbt
      rw [e] at e4;cases e4
      exact .inr (.inl ⟨hTC b hbt,rfl,#[],more,rfl,z⟩)
    ·rcases key b o e with z | ⟨hbt,more,z⟩
     ·exact ⟨_,z⟩
     ·exact ⟨_,z⟩
 have tk:∀ b ∈ ts,zdn P w (fun b=>if b=a then some (.frz { cls := .type "list",data := .seq vs.toArray } (.lst (ns.map V.int))) else if b ∈ ts then some (.tbl #[]) else none) s₁.heap b (.tbl #[]):=fun b hb'=>hT b hb'
 cases hk:K.lookup a with
 | some o =>
  have e:=KX a o hk
  rw [ha] at e
  cases e
  refine core (fun b=>if b ∈ ts then some (.tbl #[]) else none) (fun b=>?_) (fun P hP=>if_pos hP) (.inr ⟨_,vs.toArray,_,hk,rfl,rfl,rfl,by rw [List.size_toArray,lenV];exact hl,by simpa using rv⟩) (fun b u z=>?_) (fun b z=>?_) fun z=>?_
  ·by_cases hb:b ∈ ts
   ·exact .inr (.inr ⟨hb,if_pos hb⟩)
   ·exact .inl (if_neg hb)
  ·by_cases hb:b ∈ ts
   ·have z':=(if_pos hb).symm.trans z
    cases z'
    exact hT b hb
   ·have z':=(if_neg hb).symm.trans z
    cases z'
  ·by_cases hb:b ∈ ts
   ·exact .inr hb
   ·exact absurd (if_neg hb) z
  ·exact absurd (if_neg haT) z
 | none =>
  refine core (fun b=>if b=a then some (.frz { cls := .type "list",data := .seq vs.toArray } (.lst (ns.map V.int))) else if b ∈ ts then some (.tbl #[]) else none) (fun b=>?_) (fun P hP=>?_) (.inl (.inr ⟨{ cls := .type "list",data := .seq vs.toArray },if_pos rfl⟩)) (fun b u z=>?_) (fun b z=>?_) fun _=>hk
  ·by_cases hb:b=a
   ·exact .inr (.inl ⟨_,_,if_pos hb⟩)
   ·by_cases hb2:b ∈ ts
    ·exact .inr (.inr ⟨hb2,(if_neg hb).trans (if_pos hb2)⟩)
    ·exact .inl ((if_neg hb).trans (if_neg hb2))
  ·have hne:P ≠ a:=fun z=>haT (z ▸ hP)
   exact (if_neg hne).trans (if_pos hP)
  ·by_cases hb:b=a
   ·have z':=(if_pos hb).symm.trans z
    cases z'
    subst hb
    exact ⟨ha,by rw [List.length_map];exact hl,vs,_,rv,ha⟩
   ·by_cases hb2:b ∈ ts
    ·have z':=((if_neg hb).trans (if_pos hb2)).symm.trans z
     cases z'
     exact hT b hb2
    ·have z':=((if_neg hb).trans (if_neg hb2)).symm.trans z
     cases z'
  ·by_cases hb:b=a
   ·exact .inl hb
   ·by_cases hb2:b ∈ ts
    ·exact .inr hb2
    ·exact absurd ((if_neg hb).trans (if_neg hb2)) z
theorem zpg {l:PySem.W.OpenLaw} {n k:Nat} {q:Program} {loose:List Str} {XP:(Str→Option Value)→Heap→Prop} {YP:World→Heap→Prop} {d:DefRec} {K:Params→PySem.W.Frag} {CX:World→CXT} {sp:World→Sp} {x:Str} {ts:List Addr}
  (hn:l.most=some n) (hn2:n ≤ sizeLine) (hdf:d.params.defaults=[]) (hr:Room k callerA)
  (hY:∀ (w:World) (h:Heap),YP w h→(K w.params).In h∧∀ P ∈ ts,h.get? P=some (PySem.W.tabObj #[]))
  (hTK:∀ w:World,PySem.W.noTabs (K w.params)=true)
  (F:∀ (w:World) (mg:Str→Option Value) (fa:Addr) (h:Heap),(K w.params).In h→h.Ns mainGlobals mg→mg d.name=some (.ref fa) →
   ∃ fd:FuncData,(∀ (s:Shared) (u:Value),BindsTo s fd ⟨[u],[]⟩ [(x,u)])∧(∀ P ∈ ts,∃ c,PySem.W.codeHdIn (K w.params) c P=true) ∧
    ∀ base:Heap,(K w.params).In base→base.Ns mainGlobals mg→BltB base mg→FnOk l.prog w (K w.params) mg base (CX w) k fa fd [x] (sp w))
  (hsp:∀ (w:World) (H:Hp) (a:Addr) (ns:List Int),ns.length ≤ n→zqY ts H→(∀ P ∈ ts,H P=some (.tbl #[]))→SqL (K w.params) H a (ns.map V.int)→sp w [.ref a] H (fun v _=>v = .bl true) fun _ _ _=>False)
  (hCX:∀ (w:World) (H:Hp) (s:Shared) (e:Value) (s':Shared),CX w [] H s (fun _ _ _=>False) e s'→False) :
  PySem.W.WalkO q loose XP YP l.row.toRowW d [] (fun f vs=>PySem.call f vs):=by
 refine Att.zkW hn hdf fun w s₀ s₁ mg mb fa o pm cd doc a vs ns G Y ho hd hcd hmg hobj hints hlen hg=>?_
 obtain ⟨KX,hT⟩:=hY w _ Y
 obtain ⟨fd,hb,hTC,hF⟩:=F w mg fa _ KX G.T.g hmg
 refine znr KX G.T.g G.T.b G.T.builtins G.T.nolimit hg hT (hTK w) (fun P hP=>?_) hobj hints (Nat.le_trans hlen hn2) hr (let ⟨bm,ob,b1,b2,b3,b4,b5,b6⟩:=G.T.bmain; ⟨bm,ob,b1,b2,b3,b4,b5,b6⟩) hF hb (fun H hO hTb hS=>hsp w H a ns hlen hO hTb hS) fun H e s'=>hCX w H s₁ e s'
 obtain ⟨c,hc⟩:=hTC P hP
 exact ((PySem.W.codeHd_of_K KX hc).tab (hT P hP)).isCodeTable
end L2
namespace L2
open PySem PySem.Spec PyProof.Rows
structure zh1 (h:Heap) (H:Hp) (f:Addr) (qual:Str) (params:Arguments) (body:Expr) (scope:Scope) (caps:List (Str × Int)):Prop where
 ex:∃ (cl:List (Str × Addr)) (pm ctv:Value) (c':Addr) (oc:Obj) (vs:Array Value) (t:Tok),
  H f=some (.frz (PySem.W.kla_obj "<lambda>" qual params body scope cl pm c' ctv) (.own 0))∧H c'=some (.frz oc (.own 0))∧oc.data = .fields vs∧vs[1]? = some (.str qual t) ∧
  (∀ x y c,cl.lookup x=some c→cl.lookup y=some c→x=y)∧(∀ y ∈ scope.names,y.2 = .free→∃ c,cl.lookup y.1=some c) ∧
  (∀ x c,cl.lookup x=some c→(∃ v,h.IsCell c v)∧H c=none)∧∀ p ∈ caps,∃ c t,cl.lookup p.1=some c∧h.IsCell c (some (.int p.2 t))
theorem zh1.stay {h h':Heap} {H H':Hp} {f:Addr} {qual:Str} {params:Arguments} {body:Expr} {scope:Scope} {caps:List (Str × Int)} {fs:List Addr} (L:zh1 h H f qual params body scope caps) (u:Un fs [] H H' h h'):zh1 h' H' f qual params body scope caps:=by
 obtain ⟨cl,pm,ctv,c',oc,vs,t,h1,h2,h3,h4,h5,h6,h7,h8⟩:=L.ex
 have cell:∀ {x c v},cl.lookup x=some c→h.IsCell c v→h'.IsCell c v:=fun {x c v} e ⟨o,ho,hd⟩=>by
  obtain ⟨sl,q⟩:=u.any ho (h7 x c e).2 (by simp)
  exact ⟨_,q,hd⟩
 refine ⟨cl,pm,ctv,c',oc,vs,t,u.frzs _ _ _ h1,u.frzs _ _ _ h2,h3,h4,h5,h6,fun x c e=>?_,fun p hp=>?_⟩
 ·obtain ⟨⟨v,ic⟩,n⟩:=h7 x c e
  obtain ⟨o,ho,_⟩:=id ic
  exact ⟨⟨v,cell e ic⟩,u.free _ _ ho n (by simp)⟩
 ·obtain ⟨c,t',e,ic⟩:=h8 p hp
  exact ⟨c,t',e,cell e ic⟩
def cxL (P:Program) (w:World) (K:PySem.W.Frag) (mg:Str→Option Value) (base:Heap) (N:List Str) (qual:Str) (scope:Scope) (f:Addr) (cd:Value) (cl:List (Str × Addr)) (A:Around) (outer:List Env) (s:Shared) (H:Hp):Cx where
 prog:=P
 w:=w
 K:=K
 mg:=mg
 base:=base
 A:=A.deeper (PySem.W.envX qual scope s.heap.objs.size f cd cl)
 N:=N
 s₀:=s
 H₀:=H
 env:=PySem.W.envX qual scope s.heap.objs.size f cd cl
 outer:=outer
 stack:=PySem.W.envX qual scope s.heap.objs.size f cd cl :: outer
 ex:=[]
 calm:=true
 fn:=fun _=>false
 pn:=[]
 xe:=fun _ _=>False
structure zff (scope:Scope) (y:Str) (cs:List Str):Prop where
 kind:scope.kind = .function
 co:scope.isCoroutine=false
 gen:scope.isGenerator=false
 nocell:∀ x ∈ scope.names,x.2 ≠ .cell
 par:scope.names.lookup y=some .local
 cap:∀ x ∈ cs,scope.names.lookup x=some .free
section
variable {P:Program} {w:World} {K:PySem.W.Frag} {mg:Str→Option Value} {base:Heap} {A:Around} {outer:List Env} {s:Shared} {H:Hp}
theorem zqB {f:Addr} {qual:Str} {params:Arguments} {body:Expr} {scope:Scope} {caps:List (Str × Int)} {y:Str} {u:Value} {v:V} {Q:VK} {E:XK} {k:Nat}
  (hr:Room (k + 1) A) (e0:Env0 P w K mg base A outer s H) (L:zh1 s.heap H f qual params body scope caps) (S:zff scope y (caps.map (·.1)))
  (hbind:∀ cl pm c' ctv,bindArgs (PySem.W.kla_fn "<lambda>" qual params body scope cl pm (.ref c') ctv) ⟨[u],[]⟩ = pure [(y,u)]) (rv:RelV v u)
  (hb:∀ cd cl,∃ te,PE (cxL P w K mg base (y :: caps.map (·.1)) qual scope f cd cl A outer s H) body te∧te (some v :: caps.map fun p=>some (.int p.2)) H Q) :
  codeAny (model P w) A (.call (.ref f) ⟨[u],[]⟩) (CR CX0 outer P w H s Q E) s:=by
 obtain ⟨cl,pm,ctv,c',oc,vs,t,h1,h2,h3,h4,h5,h6,h7,h8⟩:=L.ex
 have of:s.heap.get? f=some (PySem.W.kla_obj "<lambda>" qual params body scope cl pm c' ctv):=(e0.hok f _ h1).1
 have occ:s.heap.get? c'=some oc:=(e0.hok c' _ h2).1
 have lim:s.heap.NoLimit:=e0.mod.nolimit.keeps fun b o e=>(e0.bs b o e).1
 refine PySem.W.kla_callFunE (by have:=hr.dp;omega) of rfl S.co S.gen rfl ⟨c',oc,vs,t,rfl,occ,h3,h4⟩ ?_
 rw [hbind]
 refine wpAny_pure (wpAny_newFunctionEnv S.nocell (fun x hx=>by rw [List.mem_singleton.mp hx];exact S.par) (fun h₁ hns hsb=>?_) S.kind)
 have hk:∀ b o,s.heap.get? b=some o→h₁.get? b=some o:=fun b o e=>hsb.extBut b o (Nat.ne_of_lt (Heap.lt_size e)) (Heap.get?_push_of_some _ e)
 refine ⟨lim.keeps hk,?_⟩
 show codeAny _ _ (.expr body (PySem.W.envX qual scope s.heap.objs.size f (.ref c') cl)) _ _
 obtain ⟨te,pe,hq⟩:=hb (.ref c') cl
 have noA:∀ b:Addr,b ∉ (cxL P w K mg base (y :: caps.map (·.1)) qual scope f (.ref c') cl A outer s H).ex:=fun b z=>absurd (show b ∈ ([] : List Addr) from z) (by simp)
 have I:Inv (cxL P w K mg base (y :: caps.map (·.1)) qual scope f (.ref c') cl A outer s H) [] (some v :: caps.map fun p=>some (.int p.2)) H { s with heap:=h₁,toks:=s.toks + 1 }:=by
  refine ⟨⟨e0.mod,S.kind,rfl,rfl,Nat.le_refl _,h5,fun x hx=>?_,fun x c z=>(by cases z),fun _=>hr.hd,Around.frames_deeper e0.frames, .inr ⟨rfl,rfl⟩,fun b z=>absurd z (noA b),e0.bs,e0.bsz,fun b _ _=>noA b,fun b z=>absurd z (noA b),e0.funs,e0.frf⟩,
   rfl,e0.bare,Un.kept hk,⟨_,hns,fun i x v' e1 e2 e3=>?_⟩,fun x c e=>?_,e0.hok.fresh (Nat.le_refl _),fun x c e=>(h7 x c e).2,fun p hp=>absurd (show p ∈ ([] : List (Addr × Obj)) from hp) (by simp),e0.hok.kept hk,?_⟩
  ·have hx:scope.names.lookup x=some .cell∨scope.names.lookup x=some .free:=hx
   rcases hx with hx | hx
   ·exact absurd rfl (S.nocell _ (PySem.mem_of_lookup hx))
   ·exact h6 _ (PySem.mem_of_lookup hx) rfl
  ·cases i with
   | zero =>
    have e1':y=x:=by simpa [cxL] using e1
    have e2':v=v':=by simpa using e2
    subst e1' e2'
    exact ⟨u,rv, .inl ⟨S.par,by simp⟩⟩
   | succ i =>
    have e1':(caps.map (·.1))[i]? = some x:=by simpa [cxL] using e1
    rw [List.getElem?_map] at e1'
    simp only [List.getElem?_cons_succ,List.getElem?_map] at e2
    cases q:caps[i]? with
    | none=>rw [q] at e1';cases e1'
    | some p =>
     rw [q] at e1' e2
     have e1'':p.1=x:=Option.some.inj e1'
     have e2':V.int p.2=v':=Option.some.inj (Option.some.inj e2)
     subst e1'' e2'
     have hp:p ∈ caps:=List.mem_of_getElem? q
     obtain ⟨c,t',ec,ic⟩:=h8 p hp
     exact ⟨.int p.2 t',⟨t',rfl⟩, .inr ⟨.inr (S.cap _ (List.mem_map_of_mem hp)),c,ec,ic.keeps hk⟩⟩
  ·obtain ⟨⟨v',ic⟩,_⟩:=h7 x c e
   exact ⟨v',ic.keeps hk⟩
  ·simp [cxL]
 refine PySem.W.kla_codeExpr (wpAny_mono (pe [] _ _ H Q I hq) (fun v' s' h'=>?_) fun e s' h'=>h'.elim)
 obtain ⟨x,H',J,rv',q⟩:=h'
 exact ⟨x,H',J.os,J.bare,J.base,J.hok,rv',q⟩
end
end L2
namespace V2
open PySem PySem.Spec PyProof.Rows L2
@[simp] def noE (m:Mo A):Mo A:=fun Ω=>match m Ω with
 | some (.exc _,_)=>none
 | r=>r
@[simp] def lamG (fb:Ev→Mo A) (ns:List Int):A→Mo A:=fun a=>noE (fb (some a :: ns.map fun n=>some (.int n)))
open Classical in
@[simp] noncomputable def vLam (i:Nat) (lf:Addr) (g:A→Mo A) (fa:Ev→Mo A):Ev→Mo A:=fun ρ=>match (ρ[i]?).join with
 | some (.adr q)=>if q=lf then mb (fa ρ) g else stuck
 | _=>stuck
def LamV (P:Program) (w:World) (K:PySem.W.Frag) (mg:Str→Option Value) (base:Heap) (qual:Str) (body:Expr) (scope:Scope) (y:Str) (cs:List Str) (fb:Ev→Mo A):Prop :=
 ∀ (f:Addr) (cd:Value) (cl:List (Str × Addr)) (A:Around) (outer:List Env) (s:Shared) (H:Hp),Room 0 (A.deeper (PySem.W.envX qual scope s.heap.objs.size f cd cl)) →
  VE (cxL P w K mg base (y :: cs) qual scope f cd cl A outer s H) noW body fb
section
variable {X:Cx} {W:WX} {e:Expr} {fa:Ev→Mo A} {p pos:Pos}
theorem zmc {i:Nat} {z:Str} {lf:Addr} {qual:Str} {params:Arguments} {body:Expr} {scope:Scope} {caps:List (Str × Int)} {y:Str} {fb:Ev→Mo A}
  (hex:X.ex=[]) (L0:zh1 X.s₀.heap X.H₀ lf qual params body scope caps) (S:zff scope y (caps.map (·.1))) (hr:Room 1 X.A)
  (hbind:∀ (u:Value) cl pm c' ctv,bindArgs (PySem.W.kla_fn "<lambda>" qual params body scope cl pm (.ref c') ctv) ⟨[u],[]⟩ = pure [(y,u)])
  (hV:LamV X.prog X.w X.K X.mg X.base qual body scope y (caps.map (·.1)) fb)
  (hN:X.N[i]? = some z) (hv:Vis X.env.scope z) (he:VE X W e fa) (hd:(z == ("__debug__" : Str))=false:=by decide) (hcd:(z == ("__classdict__" : Str))=false:=by decide)
  (hst:starEach [e] X.env=[(false,eval e X.env)]:=by rfl) :
  VE X W (.Call (.Name z p) [e] [] pos) (vLam i lf (lamG fb (caps.map (·.2))) fa):=by
 obtain ⟨t,p1,s1⟩:=he
 refine ⟨fun σ H Q=>σ[i]? = some (some (.ref lf))∧t σ H fun v H1=>∀ (f:Addr) (cd:Value) (cl:List (Str × Addr)) (A:Around) (outer:List Env) (s:Shared),Room 0 (A.deeper (PySem.W.envX qual scope s.heap.objs.size f cd cl)) →
   ∃ te,PE (cxL X.prog X.w X.K X.mg X.base (y :: caps.map (·.1)) qual scope f cd cl A outer s H1) body te∧te (some v :: caps.map fun p=>some (.int p.2)) H1 Q,?_,?_⟩
 ·intro pins s σ H Q I ⟨hσ,ht⟩
  refine wpAny_Call_Name_kw (thn (zgH hN hv hd hcd pins s σ H (fun v H1=>v = .ref lf∧H1=H) I ⟨_,hσ,rfl,rfl⟩) fun fv s0 ⟨v0,H0,I0,r0,e0,e1⟩=>?_)
  subst e0 e1
  cases r0
  have fnAt:∀ {pins:List (Addr × Obj)} {σ:L2.St} {H:Hp} {s:Shared},Inv X pins σ H s→zh1 s.heap H lf qual params body scope caps∧PySem.W.FnAt lf s.heap:=fun {pins σ H s} J=>by
   have u:=J.base
   rw [hex] at u
   have La:=L0.stay u
   obtain ⟨cl,pm,ctv,c',oc,vs,t,h1,_⟩:=La.ex
   exact ⟨La,⟨_,_,_,_,(J.hok _ _ h1).1⟩⟩
  refine PySem.W.callWith_F (fnAt I0).2 ?_ hst rfl
  rw [hst]
  refine Calls.spliced_cons (thn (p1 pins s0 σ H0 _ I0 ht) fun u s1 ⟨v,H1,I1,r1,q1⟩=>?_)
  refine Calls.spliced_nil ⟨(fnAt I1).2,?_⟩
  refine wpAny_call (codeAny_mono (zqB (E:=fun _ _ _=>False) (k:=0) hr I1.env0 (fnAt I1).1 S (hbind u) r1 fun cd cl=>q1 lf cd cl X.A X.stack s1 (hr.deeper _)) fun r s' hq=>?_)
  cases r with
  | error ev=>exact False.elim hq
  | ok fl =>
   cases fl with
   | ret u=>exact I1.after hq
   | next=>exact False.elim hq
   | brk=>exact False.elim hq
   | cont=>exact False.elim hq
 ·intro G ι Ω H σ ρ Q w r h
  simp only [vLam] at h
  cases q:(ρ[i]?).join with
  | none=>rw [q] at h;exact False.elim h
  | some d =>
   rw [q] at h
   cases d with
   | adr q0 =>
    simp only at h
    by_cases hq:q0=lf
    ·rw [if_pos hq] at h
     subst hq
     obtain ⟨v,hv1,hv2⟩:=r.2 i _ (join_some q)
     simp only [Den] at hv2
     subst hv2
     refine ⟨hv1,s1 G ι Ω H σ ρ _ w r (Post.mb h fun a Ω1 v H1 G1 ι1 x1 w1 d1 h1=>?_)⟩
     intro f cd cl A outer s hrA
     obtain ⟨te,pe,sm⟩:=hV f cd cl A outer s H1 hrA
     refine ⟨te,pe,sm G1 ι1 Ω1 H1 _ (some a :: (caps.map (·.2)).map fun n=>some (.int n)) Q w1 ?_ ?_⟩
     ·refine ⟨by simp,fun j d hj=>?_⟩
      cases j with
      | zero=>simp at hj;subst hj;exact ⟨v,rfl,d1⟩
      | succ j =>
       simp only [List.getElem?_cons_succ,List.getElem?_map] at hj ⊢
       cases qc:caps[j]? with
       | none=>rw [qc] at hj;cases hj
       | some pp =>
        rw [qc] at hj
        have:V2.A.int pp.2=d:=Option.some.inj (Option.some.inj hj)
        subst this
        exact ⟨.int pp.2,rfl,by simp only [Den]⟩
     ·have h2:Post X.K (Den X.K) W G1 ι1 σ Q (noE (fb (some a :: (caps.map (·.2)).map fun n=>some (.int n))) Ω1):=h1
      revert h2
      simp only [noE]
      generalize fb (some a :: (caps.map (·.2)).map fun n=>some (.int n)) Ω1=r2
      intro h2
      match r2,h2 with
      | some (.ok b,Ω'),h2=>exact h2
      | some (.exc x,Ω'),h2=>exact False.elim h2
      | none,h2=>exact h2
    ·rw [if_neg hq] at h;exact False.elim h
   | _=>exact False.elim h
end
end V2
namespace L2
open PySem PySem.Spec PyProof.Rows
def ClOk (X:Cx) (scope:Scope) (cl:List (Str × Addr)):Prop:=(∀ x c,cl.lookup x=some c→X.env.cells.lookup x=some c)∧∀ y ∈ scope.names,y.2 = .free→∃ c,cl.lookup y.1=some c
abbrev lamO (qual:Str) (params:Arguments) (body:Expr) (scope:Scope) (cl:List (Str × Addr)) (pm:Value) (c':Addr) (ctv:Value):HO := .frz (PySem.W.kla_obj "<lambda>" qual params body scope cl pm c' ctv) (.own 0)
def tLam (X:Cx) (P:Addr) (qual:Str) (params:Arguments) (body:Expr) (scope:Scope) (lpos:Pos):TE:=fun _ H Q=>∃ ps,H P=some (.tbl ps)∧TriplesOk ps.toList ∧
 ((codeAmong lpos ps.toList=none∧∀ cl,ClOk X scope cl→∀ f c' oc vs t pm ctv,H f=none→H c'=none→c' ≠ f→oc.data = .fields vs→vs[1]? = some (.str qual t) →
   Q (.ref f) (upd (upd (upd H c' (.frz oc (.own 0))) P (.tbl (ps ++ #[rawInt lpos.line,rawInt lpos.col, .ref c']))) f (lamO qual params body scope cl pm c' ctv))) ∨
(∃ c',codeAmong lpos ps.toList=some (.ref c')∧∀ cl,ClOk X scope cl→∀ f pm ctv,H f=none→Q (.ref f) (upd H f (lamO qual params body scope cl pm c' ctv))))
section
variable {X:Cx}
theorem zsF {params:Arguments} {body:Expr} {scope:Scope} {lpos:Pos} {c P:Addr} {qual:Str} (hcode:X.env.code = .ref c) (hq:X.env.qual ++ "<lambda>" = qual) (hHd:PySem.W.codeHdIn X.K c P=true) (hB:BltB X.base X.mg)
  (hdef:defaultsOf params X.env=([],[])) (hfree:∀ y ∈ scope.names,y.2 = .free→X.env.kindOf y.1=some .cell∨X.env.kindOf y.1=some .free):PE X (.Lambda params body scope lpos) (tLam X P qual params body scope lpos):=by
 intro pins s σ H Q I h
 obtain ⟨ps,hP,ht,h⟩:=h
 obtain ⟨cl,hcl,hk1,hk2⟩:=zfE (scope:=scope) (env:=X.env) fun y hy hf=>I.ok.has y.1 (hfree y hy hf)
 have hPo:s.heap.get? P=some (PySem.W.tabObj ps):=I.hok P _ hP
 have C:PySem.W.CodeHd s.heap c P:=PySem.W.codeHd_of_K I.kIn hHd
 have hg:s.heap.Ns mainGlobals X.mg:=I.mod.glob.keeps I.bk
 obtain ⟨og,es,ep,eg,dg,rg⟩:=id I.mod.glob
 have hgP:mainGlobals ≠ P:=fun q=>by
  have:=(I.bs _ _ eg).2
  rw [q,hP] at this;cases this
 obtain ⟨bm,ob,b1,b2,b3,b4,b5,b6⟩:=hB
 have hbP:bm ≠ P:=fun q=>by
  have:=(I.bs _ _ b3).2
  rw [q,hP] at this;cases this
 have hbG:bm ≠ mainGlobals:=fun q=>by
  rw [q,eg] at b3;cases b3;rw [dg] at b6;cases b6
 have hb:s.heap.BuiltinsAt X.mg P:=⟨bm,ob,b1,b2,hbG,hbP,I.bk _ _ b3,b4,b5,b6⟩
 refine PySem.W.kla_eval hdef ?_
 rw [hq]
 rcases h with ⟨hn,h⟩ | ⟨c',hn,h⟩
 ·refine PySem.W.kla_makeFunction (mg:=X.mg) hcl I.ok.glob hg hcode C hPo ht hn hgP hb fun c' ctv h' tk hx hge hlt hrec htb=>?_
  obtain ⟨c₂,oc,vs,t,e2,hoc,hd,hv⟩:=hrec
  cases e2
  have hc0:H c'=none:=I.hok.fresh hge
  have hcP:c' ≠ P:=fun q=>by rw [q,hP] at hc0;cases hc0
  have ne:∀ b o,s.heap.get? b=some o→b ≠ c':=fun b o e z=>by
   have:=Heap.lt_size e
   rw [z] at this
   exact absurd (Nat.lt_of_lt_of_le this hge) (Nat.lt_irrefl _)
  have at':∀ b,b ≠ P→b ≠ c'→upd (upd H c' (.frz oc (.own 0))) P (.tbl (ps ++ #[rawInt lpos.line,rawInt lpos.col, .ref c'])) b=H b:=fun b h1 h2=>by rw [zap h1,zap h2]
  have un:Un (frs X.stack) [] H (upd (upd H c' (.frz oc (.own 0))) P (.tbl (ps ++ #[rawInt lpos.line,rawInt lpos.col, .ref c']))) s.heap h':=by
   refine ⟨fun b o e n _ _=>hx b o (fun z=>by rw [z,hP] at n;cases n) e,fun b o e n _ _=>⟨o.slots,hx b o (fun z=>by rw [z,hP] at n;cases n) e⟩,fun b o e n _=>?_,fun b o e _=>?_,fun b xs e=>?_,fun b o u e=>?_,fun b qs e=>?_⟩
   ·rw [at' b (fun z=>by rw [z,hP] at n;cases n) (ne b o e)];exact n
   ·by_cases hb':b=P
    ·subst hb';exact ⟨_,htb⟩
    ·exact ⟨o,hx b o hb' e⟩
   ·rw [at' b (fun z=>by rw [z,hP] at e;cases e) (zaK e hc0)];exact e
   ·rw [at' b (fun z=>by rw [z,hP] at e;cases e) (zaK e hc0)];exact e
   ·by_cases hb':b=P
    ·subst hb'
     rw [hP] at e;cases e
     exact ⟨_,zaw⟩
    ·exact ⟨#[],by rw [at' b hb' (zaK e hc0),e];simp⟩
  have hok:HOk X.prog X.w (upd (upd H c' (.frz oc (.own 0))) P (.tbl (ps ++ #[rawInt lpos.line,rawInt lpos.col, .ref c']))) h':=fun b u e=>by
   by_cases hb':b=P
   ·subst hb'
    rw [zaw] at e;cases e
    exact htb
   ·rw [zap hb'] at e
    by_cases hb2:b=c'
    ·subst hb2
     rw [zaw] at e;cases e
     exact ⟨hoc,oc,hoc⟩
    ·rw [zap hb2] at e
     refine (I.hok b u e).stay (fun d v hd' q=>hx d v (fun z=>?_) q) (fun d q=>?_) (fun d xs q=>?_)
     ·subst z
      rcases hd' with z | z
      ·exact hb' z.symm
      ·rw [hP] at z;cases z
     ·rw [at' d (fun z=>by rw [z,hP] at q;cases q) (zaK q hc0)];exact q
     ·rw [at' d (fun z=>by rw [z,hP] at q;cases q) (zaK q hc0)];exact q
  have I1:Inv X pins σ (upd (upd H c' (.frz oc (.own 0))) P (.tbl (ps ++ #[rawInt lpos.line,rawInt lpos.col, .ref c']))) { s with heap:=h',toks:=tk }:=I.zoR (s':={ s with heap:=h',toks:=tk }) (ch:=[]) rfl un hok I.bare fun b z=>absurd z (by simp)
  have hf0:upd (upd H c' (.frz oc (.own 0))) P (.tbl (ps ++ #[rawInt lpos.line,rawInt lpos.col, .ref c'])) h'.objs.size=none:=I1.hok.fresh (Nat.le_refl _)
  have hfP:h'.objs.size ≠ P:=fun z=>by rw [z,zaw] at hf0;cases hf0
  have hfc:h'.objs.size ≠ c':=Nat.ne_of_gt hlt
  have hf1:H h'.objs.size=none:=by rw [at' _ hfP hfc] at hf0;exact hf0
  refine ⟨.ref h'.objs.size,_,I1.laid (t':=tk) (a:=h'.objs.size) (o:=lamO qual params body scope cl ((X.mg "__name__").getD .none) c' ctv) (fun b o e=>Heap.get?_push_of_some _ e) (Nat.le_refl _) ⟨Heap.get?_push_size _ rfl,_,Heap.get?_push_size _ rfl⟩,rfl,?_⟩
  exact h cl ⟨hk1,hk2⟩ _ c' oc vs t _ ctv hf1 hc0 hfc.symm hd hv
 ·refine PySem.W.kla_makeFunctionHit (mg:=X.mg) hcl I.ok.glob hg hcode C hPo ht hn hb fun ctv h' tk hk hsz=>?_
  have hf1:H h'.objs.size=none:=I.hok.fresh hsz
  exact ⟨.ref h'.objs.size,_,I.laid (t':=tk) (a:=h'.objs.size) (o:=lamO qual params body scope cl ((X.mg "__name__").getD .none) c' ctv) (fun b o e=>Heap.get?_push_of_some _ (hk b o e)) hsz ⟨Heap.get?_push_size _ rfl,_,Heap.get?_push_size _ rfl⟩,rfl,h cl ⟨hk1,hk2⟩ _ _ ctv hf1⟩
end
end L2
namespace L2
open PySem PySem.Spec PyProof.Rows
theorem ztJ {CX:CXT} {P:Program} {w:World} {K:PySem.W.Frag} {mg:Str→Option Value} {base:Heap} {k:Nat} {f:Addr} {name qual:Str} {params:Arguments} {body:List Stmt} {scope:Scope} {dV kV doc pm cdv ct oc:Value} {an od:Option Addr}
  {osl:Array (Option Value)} {N ps:List Str} (lk:K.lookup f=some ⟨oc,od, .func (PySem.W.fnOf name qual params body scope dV kV doc pm an cdv ct),osl⟩) (hcd:PySem.W.codeIn K cdv qual=true) (S:zaq N ps scope)
  {A:Around} {outer:List Env} {s:Shared} {H:Hp} {args:Args} {us:List Value} {vs:List V} {Q:VK} {E:XK} (hr:Room (k + 1) A) (e0:Env0 P w K mg base A outer s H) (hb:BindsTo s (PySem.W.fnOf name qual params body scope dV kV doc pm an cdv ct) args (ps.zip us)) (r:Vals vs us) (hl:vs.length=ps.length)
  (hbody:Room k (A.deeper (envOfC qual scope s.heap.objs.size f cdv))→∃ t,PSs (cxOf CX P w K mg base N qual scope f cdv A outer s H E) body t∧t { nx:=fun _ H'=>Q .non H',rt:=Q } (start N vs) H) :
  codeAny (model P w) A (.call (.ref f) args) (CR CX outer P w H s Q E) s:=by
 have KX:K.In s.heap:=e0.mod.kin.keeps fun b o e=>(e0.bs b o e).1
 have lim:s.heap.NoLimit:=e0.mod.nolimit.keeps fun b o e=>(e0.bs b o e).1
 have hkind:∀ y ∈ ps.zip us,scope.names.lookup y.1=some .local∨(scope.names.lookup y.1=some .cell∧((cellsFrom (s.heap.objs.size + 1) scope.names []).lookup y.1).isSome=true):=fun ⟨n,v⟩ hy=>by
  rcases S.par n (List.of_mem_zip hy).1 with q | q
  ·exact .inl q
  ·exact .inr ⟨q,PySem.W.cellsFrom_some _ _ _ (.inl q)⟩
 refine codeAny_call_function hr.depth (KX _ _ lk) rfl S.co S.gen rfl (PySem.W.codeRec_of KX hcd) (hb _ _ _ _ ?_)
 refine wpAny_newFunctionEnv_cells S.kind hkind fun env he s1 x=>?_
 subst he
 refine ⟨lim.keeps x.toInCall.keep,codeAny_func ?_⟩
 obtain ⟨t,ht,hq⟩:=hbody (hr.deeper _)
 have I:Inv (cxOf CX P w K mg base N qual scope f cdv A outer s H E) [] (start N vs) H s1:=ze2 S hr.hd e0 hl r x
 refine wpAny_mono (ht [] s1 (start N vs) H _ I hq) (fun fl s' hs=>?_) fun e s' hs=>hs
 have fin:∀ {σ':St} {H':Hp} {v:V} {u:Value},Inv (cxOf CX P w K mg base N qual scope f cdv A outer s H E) [] σ' H' s'→RelV v u→Q v H'→CE outer P w H s Q u s' :=
  fun {σ' H' v u} J rv q=>⟨v,H',J.os,J.bare,J.base,J.hok,rv,q⟩
 cases fl with
 | ret u =>
  obtain ⟨v,σ',H',J,rv,q⟩:=hs
  exact fin J rv q
 | next =>
  obtain ⟨σ',H',J,q⟩:=hs
  exact fin (v:=V.non) (u:=Value.none) J rfl q
 | brk =>
  obtain ⟨_,_,_,q⟩:=hs
  exact False.elim q
 | cont =>
  obtain ⟨_,_,_,q⟩:=hs
  exact False.elim q
end L2
namespace V2
open PySem PySem.Spec PyProof.Rows L2
structure TabF (K:PySem.W.Frag) (mg:Str→Option Value) (base:Heap) (x:Str):Prop where
 kin:K.In base
 glob:base.Ns mainGlobals mg
 blt:BltB base mg
 hd:∃ c P,PySem.W.tabIn K x=some (c,P)∧PySem.W.codeHdIn K c P=true
section
variable {P:Program} {w:World} {K:PySem.W.Frag} {mg:Str→Option Value} {base:Heap}
theorem DefV.ofT {x:Str} {st:Stmt} {N ps:List Str} {k:Nat} {b:MS} (h:HasFn K mg x st) (T:TabF K mg base x) (S:zaq N ps (zab st))
  (bind:∀ (kV doc pm:Value) (an:Option Addr) (cdv ct:Value) (us:List Value),us.length=ps.length→bindArgs (PySem.W.fnOf x x (zan st) (zaj st) (zab st) .none kV doc pm an cdv ct) ⟨us,[]⟩ = pure (ps.zip us))
  (hbody:∀ (c Pt:Addr),PySem.W.tabIn K x=some (c,Pt)→PySem.W.codeHdIn K c Pt=true→∀ (f:Addr) (A:Around) (outer:List Env) (s:Shared) (H:Hp) (E:XK),Room k (A.deeper (envOfC x (zab st) s.heap.objs.size f (.ref c))) →
   VSs (cxX P w K mg base N x (zab st) f (.ref c) A outer s H E) (fun _=>E) (zaj st) b):DefV P w K mg base x (k + 1) ps (fnF N.length b):=by
 obtain ⟨f,fd,hm,F⟩:=h.ex
 obtain ⟨c,Pt,ht,hh⟩:=T.hd
 have hcd:∃ oc od kV doc pm an ct osl,fd=PySem.W.fnOf x x (zan st) (zaj st) (zab st) .none kV doc pm an (.ref c) ct∧K.lookup f=some ⟨oc,od, .func (PySem.W.fnOf x x (zan st) (zaj st) (zab st) .none kV doc pm an (.ref c) ct),osl⟩∧PySem.W.codeIn K (.ref c) x=true:=by
  obtain ⟨oc,od,kV,doc,pm,an,cdv,ct,osl,rfl,lk,hcd⟩:=F.ex
  have e:(PySem.W.fnOf x x (zan st) (zaj st) (zab st) .none kV doc pm an cdv ct).code = .ref c:=PySem.W.law_code T.kin T.glob ht hm (T.kin _ _ lk) rfl
  have e':cdv = .ref c:=e
  subst e'
  exact ⟨oc,od,kV,doc,pm,an,ct,osl,rfl,lk,hcd⟩
 have FB:=F.binds bind
 obtain ⟨oc,od,kV,doc,pm,an,ct,osl,rfl,lk,hcd⟩:=hcd
 refine ⟨f,_,zoG lk hcd S (fun vs H Q E h=>h.1) fun A outer s H vs Q E hr hsp=>?_,hm,F.kp,FB⟩
 obtain ⟨t,p,q⟩:=hbody c Pt ht hh f A outer s H E hr
 exact ⟨t,zlk p,zhh q hsp⟩
end
def zhZ:List Nat→Ev→Option (List Int)
 | [],_=>some []
 | j :: js,ρ=>match (ρ[j]?).join with
  | some (.int n)=>(zhZ js ρ).map (n :: ·)
  | _=>none
open Classical in
noncomputable def vFW (k:Nat) (x:Str) (lpos:Pos) (qual:Str) (js:List Nat) (R:List Int→A→Mo A) (fa:Ev→Mo A):Ev→Mo A:=fun ρ=>mb (fa ρ) fun a Ω=>if Ω[k]? = some (.tab x lpos qual) then (match zhZ js ρ with
 | some ns=>noE (R ns a) Ω
 | none=>none) else none
theorem zm8 {K:PySem.W.Frag} {G:Hp} {ι:List Addr} {σ:L2.St} {ρ:Ev} (r:EnvR K G ι σ ρ) (N:List Str):∀ {js:List Nat} {cs:List Str} {ns:List Int},js.map (fun j=>N[j]?)=cs.map some→zhZ js ρ=some ns →
  ∃ caps:List (Str × Int),caps.map (·.1)=cs∧caps.map (·.2)=ns∧∀ p ∈ caps,∃ j:Nat,N[j]? = some p.1∧σ[j]? = some (some (V.int p.2))
 | [],[],ns,_,h=>by
  simp only [zhZ] at h
  cases h
  exact ⟨[],rfl,rfl,fun p hp=>by simp at hp⟩
 | [],_ :: _,_,e,_=>by simp at e
 | _ :: _,[],_,e,_=>by simp at e
 | j :: js,c :: cs,ns,e,h=>by
  simp only [List.map_cons,List.cons.injEq] at e
  simp only [zhZ] at h
  cases q:(ρ[j]?).join with
  | none=>rw [q] at h;cases h
  | some d =>
   rw [q] at h
   cases d with
   | int n =>
    simp only at h
    cases q2:zhZ js ρ with
    | none=>rw [q2] at h;cases h
    | some ms =>
     rw [q2] at h
     cases h
     obtain ⟨caps,e1,e2,e3⟩:=zm8 r N e.2 q2
     obtain ⟨v,hv,hd⟩:=r.2 j _ (join_some q)
     simp only [Den] at hd
     subst hd
     refine ⟨(c,n) :: caps,by simp [e1],by simp [e2],fun p hp=>?_⟩
     rcases List.mem_cons.mp hp with z | z
     ·subst z;exact ⟨j,e.1,hv⟩
     ·exact e3 p z
   | _=>cases h
end V2
namespace V2
open PySem PySem.Spec PyProof.Rows L2
section
variable {X:Cx} {W:WX} {e:Expr} {fa:Ev→Mo A} {p pos:Pos}
theorem zoY {ps:Array Value} {lpos:Pos} {c':Addr} (ht:TriplesOk ps.toList) (hn:codeAmong lpos ps.toList=none) :
  TriplesOk (ps ++ #[rawInt lpos.line,rawInt lpos.col, .ref c']).toList∧codeAmong lpos (ps ++ #[rawInt lpos.line,rawInt lpos.col, .ref c']).toList=some (.ref c'):=by
 have e:(ps ++ #[rawInt lpos.line,rawInt lpos.col,Value.ref c']).toList=ps.toList ++ [rawInt lpos.line,rawInt lpos.col, .ref c']:=by simp
 rw [e]
 generalize ps.toList=l at ht hn
 constructor
 ·induction l using TriplesOk.induct with
  | case1=>exact trivial
  | case2 i t j u v rest ih =>
   simp only [TriplesOk] at ht
   simp only [codeAmong] at hn
   split at hn
   ·cases hn
   ·exact ih ht hn
  | case3 l h1 h2=>simp [TriplesOk] at ht
 ·exact codeAmong_snoc l ht hn
theorem ztE {x z y qual:Str} {st:Stmt} {N ps cs:List Str} {k kf:Nat} {js:List Nat} {params:Arguments} {body:Expr} {scope:Scope} {lpos:Pos} {c P:Addr} {fb:Ev→Mo A} {bfw:Addr→(A→Mo A)→MS} {R:List Int→A→Mo A}
  (hT:PySem.W.tabIn X.K x=some (c,P)) (hHd:PySem.W.codeHdIn X.K c P=true) (hB:BltB X.base X.mg) (hcode:X.env.code = .ref c) (hq:X.env.qual ++ "<lambda>" = qual) (hdef:defaultsOf params X.env=([],[]))
  (S:zff scope y cs) (hfree:∀ y ∈ scope.names,y.2 = .free→X.env.kindOf y.1=some .cell∨X.env.kindOf y.1=some .free) (hcs:js.map (fun j=>X.N[j]?)=cs.map some) (hcell:∀ x ∈ cs,X.env.scope.names.lookup x=some .cell)
  (hz:HasFn X.K X.mg z st) (hps:ps.length=2) (SF:zaq N ps (zab st))
  (bind:∀ (kV doc pm:Value) (an:Option Addr) (cdv ct:Value) (us:List Value),us.length=ps.length→bindArgs (PySem.W.fnOf z z (zan st) (zaj st) (zab st) .none kV doc pm an cdv ct) ⟨us,[]⟩ = pure (ps.zip us))
  (hbody:∀ (lf:Addr) (caps:List (Str × Int)),caps.map (·.1)=cs→∀ (f:Addr) (cdv:Value) (A:Around) (outer:List Env) (s:Shared) (H:Hp) (E:XK),Room kf (A.deeper (envOfC z (zab st) s.heap.objs.size f cdv))→zh1 s.heap H lf qual params body scope caps →
   VSs (cxX X.prog X.w X.K X.mg X.base N z (zab st) f cdv A outer s H E) (fun _=>E) (zaj st) (bfw lf (lamG fb (caps.map (·.2)))))
  (hR:∀ lf ns a Ω r,noE (R ns a) Ω=some r→fnF N.length (bfw lf (lamG fb ns)) [a, .adr lf] Ω=some r)
  (hr:Room (kf + 1) X.A) (hg:Gl X z) (he:VE X W e fa) (hdb:(z == ("__debug__" : Str))=false:=by decide)
  (hst:starEach [e, .Lambda params body scope lpos] X.env=[(false,eval e X.env),(false,eval (.Lambda params body scope lpos) X.env)]:=by rfl)
  (hst2:starEach [.Lambda params body scope lpos] X.env=[(false,eval (.Lambda params body scope lpos) X.env)]:=by rfl) :
  VE X W (.Call (.Name z p) [e, .Lambda params body scope lpos] [] pos) (vFW k x lpos qual js R fa):=by
 obtain ⟨t1,p1,s1⟩:=he
 have PAa:PA X [e, .Lambda params body scope lpos] (znv t1 (znv (tLam X P qual params body scope lpos) tNil)) :=
  zgv p1 (zgv (zsF hcode hq hHd hB hdef hfree) zlF (by rw [hst2];rfl)) (by rw [hst,hst2])
 refine ⟨fun σ H Q=>znv t1 (znv (tLam X P qual params body scope lpos) tNil) σ H fun vs H2=>∃ (v1:V) (lf:Addr) (caps:List (Str × Int)) (cl:List (Str × Addr)) (pm ctv:Value) (c':Addr) (oc:Obj) (us:Array Value) (t:Tok),vs=[v1, .ref lf]∧caps.map (·.1)=cs∧(∀ p ∈ caps,∃ j:Nat,X.N[j]? = some p.1∧σ[j]? = some (some (V.int p.2))) ∧
   ClOk X scope cl∧H2 lf=some (lamO qual params body scope cl pm c' ctv)∧H2 c'=some (.frz oc (.own 0))∧oc.data = .fields us∧us[1]? = some (.str qual t) ∧
   spV X.K ps.length (fnF N.length (bfw lf (lamG fb (caps.map (·.2))))) [v1, .ref lf] H2 Q (fun _ _ _=>False),?_,?_⟩
 ·intro pins s σ H Q I h
  obtain ⟨f,fd,hm,F⟩:=hz.ex
  refine wpAny_Call_Name_kw (zfu I hg hm ?_ hdb)
  refine PySem.W.callWith_K (h₀:=X.base) I.ok.mod.kin F.kp (thn (PAa pos pins s σ H _ I h) fun us s1 ⟨vs,H1,I1,r,q⟩=>⟨I1.kIn,?_⟩) (by rw [hst,hst2]) (by rw [hst2];rfl)
  obtain ⟨v1,lf,caps,cl,pm,ctv,c',oc,ws,t,rfl,hcaps,hσ,hcl,hlf,hc',hd,hv,hsp⟩:=q
  have La:zh1 s1.heap H1 lf qual params body scope caps:=by
   refine ⟨cl,pm,ctv,c',oc,ws,t,hlf,hc',hd,hv,fun x y c h1 h2=>I1.ok.inj x y c (hcl.1 x c h1) (hcl.1 y c h2),hcl.2,fun x c e=>⟨I1.cell x c (hcl.1 x c e),I1.freeC x c (hcl.1 x c e)⟩,fun pp hpp=>?_⟩
   obtain ⟨j,hj1,hj2⟩:=hσ pp hpp
   have hin:pp.1 ∈ cs:=by rw [← hcaps];exact List.mem_map_of_mem hpp
   obtain ⟨m,hn,hl⟩:=I1.loc
   obtain ⟨u,ru,lu⟩:=hl j pp.1 _ hj1 hj2 (.inr (.inl (hcell _ hin)))
   obtain ⟨tk,rfl⟩:=ru
   rcases lu with ⟨hk,_⟩ | ⟨_,c0,hc0,ic⟩
   ·rw [show X.env.kindOf pp.1=some .cell from hcell _ hin] at hk;cases hk
   ·obtain ⟨c1,hc1⟩:=hcl.2 _ (PySem.mem_of_lookup (S.cap _ hin)) rfl
    have:=hcl.1 _ _ hc1
    rw [hc0] at this
    cases this
    exact ⟨c0,tk,hc1,ic⟩
  have hb':=F.binds bind s1 us I1.kIn (by rw [List.append_nil,← r.length];simp [hps])
  rw [List.append_nil] at hb'
  have FB:=hb'
  obtain ⟨oc2,od,kV,doc,pm2,an,cdv,ct,osl,rfl,lk,hcd⟩:=F.ex
  refine wpAny_call (codeAny_mono (ztJ (CX:=CXE X.prog X.w) (E:=fun _ _ _=>False) (Q:=Q) (k:=kf) lk hcd SF hr I1.env0 FB r (by simp [hps]) fun hrb=>?_) fun r s' hq=>?_)
  ·obtain ⟨tt,pp,qq⟩:=hbody lf caps hcaps f cdv X.A X.stack s1 H1 (fun _ _ _=>False) hrb La
   exact ⟨tt,zlk pp,zhh qq hsp⟩
  ·cases r with
   | error ev=>obtain ⟨x,cls,dx,H',_,_,_,_,_,_,q⟩:=hq;exact q.elim
   | ok fl =>
    cases fl with
    | ret u=>exact I1.after hq
    | next=>exact False.elim hq
    | brk=>exact False.elim hq
    | cont=>exact False.elim hq
 ·intro G ι Ω H σ ρ Q w r h
  unfold vFW at h
  refine s1 G ι Ω H σ ρ _ w r (Post.mb h fun a Ω1 v1 H1 G1 ι1 x1 w1 d1 h1=>?_)
  split at h1
  ·rename_i hk
   cases hcp:zhZ js ρ with
   | none=>rw [hcp] at h1;exact False.elim h1
   | some ns =>
    rw [hcp] at h1
    simp only at h1
    obtain ⟨caps,hc1,hc2,hc3⟩:=zm8 r X.N hcs hcp
    obtain ⟨aP,haP⟩:=w1.addr hk
    obtain ⟨gP,⟨c0,ht0⟩,qs,hq1,hq2,hq3⟩:=w1.cel k _ aP hk haP
    rw [hT] at ht0
    cases ht0
    have fin:∀ (lf:Addr) (H2 G2:Hp),Ext G1 ι1 G2 ι1→Wd X.K G2 ι1 Ω1 H2→spV X.K ps.length (fnF N.length (bfw lf (lamG fb (caps.map (·.2))))) [v1, .ref lf] H2 Q (fun _ _ _=>False):=fun lf H2 G2 e2 w2=>by
     refine ⟨by simp [hps],G2,ι1,Ω1,[a, .adr lf],w2, .cons (d1.ext e2) (.cons (by simp only [Den]) .nil),?_⟩
     revert h1
     rw [hc2]
     cases hr0:noE (R ns a) Ω1 with
     | none=>intro h1;exact False.elim h1
     | some r0 =>
      intro h1
      rw [hR lf ns a Ω1 r0 hr0]
      match r0,h1,hr0 with
      | (.ok b,Ω'),h1,_=>exact fun v H' G' ι' x3 w3 d3=>h1 v H' G' ι' (e2.trans x3) w3 d3
      | (.exc xx,Ω'),_,hr0 =>
       exfalso
       simp only [noE] at hr0
       revert hr0
       generalize R ns a Ω1=rr
       intro hr0
       match rr,hr0 with
       | some (.exc _,_),hr0=>cases hr0
       | some (.ok _,_),hr0=>cases hr0
       | none,hr0=>cases hr0
    refine ⟨qs,hq1,hq2,?_⟩
    rcases hq3 with hn | ⟨c',oc,us,t,hn,hgc,hd,hv⟩
    ·refine .inl ⟨hn,fun cl hcl f c' oc us t pm ctv hf0 hc0 hne hd hv=>?_⟩
     obtain ⟨tg1,tg2⟩:=zoY (c':=c') hq2 hn
     have hcP:c' ≠ P:=fun z=>by rw [z,hq1] at hc0;cases hc0
     have hfP:f ≠ P:=fun z=>by rw [z,hq1] at hf0;cases hf0
     have wA:=w1.new hc0 (.frz oc (.own 0))
     have gPA:upd G1 c' (.frz oc (.own 0)) P=none:=by rw [zap hcP.symm];exact gP
     have wB:=wA.put (c := .tab x lpos qual) (o := .tbl (qs ++ #[rawInt lpos.line,rawInt lpos.col, .ref c'])) haP gPA ⟨gPA,⟨c,hT⟩,_,zaw,tg1, .inr ⟨c',oc,us,t,tg2,zaw,hd,hv⟩⟩
     have hset:Ω1.set k (.tab x lpos qual)=Ω1:=by
      have hlk:=(List.getElem?_eq_some_iff.mp hk)
      obtain ⟨hl1,hl2⟩:=hlk
      rw [← hl2];exact List.set_getElem_self _
     rw [hset] at wB
     have hf1:upd (upd H1 c' (.frz oc (.own 0))) P (.tbl (qs ++ #[rawInt lpos.line,rawInt lpos.col, .ref c'])) f=none:=by rw [zap hfP,zap hne.symm];exact hf0
     have wC:=wB.new hf1 (lamO qual params body scope cl pm c' ctv)
     refine ⟨v1,f,caps,cl,pm,ctv,c',oc,us,t,rfl,hc1,hc3,hcl,zaw,?_,hd,hv,fin f _ _ ?_ wC⟩
     ·rw [zap hne,zap hcP,zaw]
     ·exact (Ext.new (w1.zgf hc0) _).trans (Ext.new (wB.zgf hf1) _)
    ·refine .inr ⟨c',hn,fun cl hcl f pm ctv hf0=>?_⟩
     have hcH:=w1.sub _ _ hgc
     have wC:=w1.new hf0 (lamO qual params body scope cl pm c' ctv)
     exact ⟨v1,f,caps,cl,pm,ctv,c',oc,us,t,rfl,hc1,hc3,hcl,zaw,by rw [zap (zaK hcH hf0)];exact hcH,hd,hv,fin f _ _ (Ext.new (w1.zgf hf0) _) wC⟩
  ·exact False.elim h1
end
end V2
namespace V2
open PySem PySem.Spec PyProof.Rows L2
structure FwOk (X:Cx) (scope:Scope) (y:Str) (cs:List Str) (js:List Nat):Prop where
 S:zff scope y cs
 free:∀ y ∈ scope.names,y.2 = .free→X.env.kindOf y.1=some .cell∨X.env.kindOf y.1=some .free
 caps:js.map (fun j=>X.N[j]?)=cs.map some
 cell:∀ x ∈ cs,X.env.scope.names.lookup x=some .cell
def zqW (sc:Scope) (N:List Str) (scope:Scope) (y:Str) (cs:List Str) (js:List Nat):Prop :=
 ((scope.kind == .function)=true∧scope.isCoroutine=false∧scope.isGenerator=false)∧(∀ x ∈ scope.names,(x.2 == .cell)=false)∧(scope.names.lookup y == some .local)=true∧(∀ x ∈ cs,(scope.names.lookup x == some .free)=true) ∧
 (∀ y ∈ scope.names,(y.2 == .free)=true→(sc.names.lookup y.1 == some .cell)=true)∧js.map (fun j=>N[j]?)=cs.map some∧∀ x ∈ cs,(sc.names.lookup x == some .cell)=true
instance (sc:Scope) (N:List Str) (scope:Scope) (y:Str) (cs:List Str) (js:List Nat):Decidable (zqW sc N scope y cs js):=by unfold zqW;infer_instance
theorem FwOk.of {X:Cx} {scope:Scope} {y:Str} {cs:List Str} {js:List Nat} (sc:Scope) (N:List Str) (h1:X.env.scope=sc) (h2:X.N=N) (h:zqW sc N scope y cs js):FwOk X scope y cs js:=by
 obtain ⟨⟨a1,a2,a3⟩,a4,a5,a6,a7,a8,a9⟩:=h
 refine ⟨⟨by simpa using a1,a2,a3,fun x hx=>by simpa using a4 x hx,by simpa using a5,fun x hx=>by simpa using a6 x hx⟩,fun y hy hf => .inl ?_,by rw [h2];exact a8,fun x hx=>by rw [h1];simpa using a9 x hx⟩
 have:=a7 y hy (by simp [hf])
 show X.env.scope.names.lookup y.1=some .cell
 rw [h1];simpa using this
theorem znQ {X:Cx} {W:WX} {e:Expr} {fa:Ev→Mo A} {p pos:Pos} {x z y qual:Str} {st:Stmt} {N ps cs:List Str} {k kf:Nat} {js:List Nat} {params:Arguments} {body:Expr} {scope:Scope} {lpos:Pos} {c P:Addr} {fb:Ev→Mo A} {bfw:Addr→(A→Mo A)→MS} {R:List Int→A→Mo A}
  (hT:PySem.W.tabIn X.K x=some (c,P)) (hHd:PySem.W.codeHdIn X.K c P=true) (hB:BltB X.base X.mg) (hcode:X.env.code = .ref c) (hq:X.env.qual ++ "<lambda>" = qual) (hdef:defaultsOf params X.env=([],[]))
  (O:FwOk X scope y cs js)
  (hz:HasFn X.K X.mg z st) (hps:ps.length=2) (SF:zaq N ps (zab st))
  (bind:∀ (kV doc pm:Value) (an:Option Addr) (cdv ct:Value) (us:List Value),us.length=ps.length→bindArgs (PySem.W.fnOf z z (zan st) (zaj st) (zab st) .none kV doc pm an cdv ct) ⟨us,[]⟩ = pure (ps.zip us))
  (hbody:zff scope y cs→∀ (lf:Addr) (caps:List (Str × Int)),caps.map (·.1)=cs→∀ (f:Addr) (cdv:Value) (A:Around) (outer:List Env) (s:Shared) (H:Hp) (E:XK),Room kf (A.deeper (envOfC z (zab st) s.heap.objs.size f cdv))→zh1 s.heap H lf qual params body scope caps →
   VSs (cxX X.prog X.w X.K X.mg X.base N z (zab st) f cdv A outer s H E) (fun _=>E) (zaj st) (bfw lf (lamG fb (caps.map (·.2)))))
  (hR:∀ lf ns a Ω r,noE (R ns a) Ω=some r→fnF N.length (bfw lf (lamG fb ns)) [a, .adr lf] Ω=some r)
  (hr:Room (kf + 1) X.A) (hg:Gl X z) (he:VE X W e fa) (hdb:(z == ("__debug__" : Str))=false:=by decide)
  (hst:starEach [e, .Lambda params body scope lpos] X.env=[(false,eval e X.env),(false,eval (.Lambda params body scope lpos) X.env)]:=by rfl)
  (hst2:starEach [.Lambda params body scope lpos] X.env=[(false,eval (.Lambda params body scope lpos) X.env)]:=by rfl) :
  VE X W (.Call (.Name z p) [e, .Lambda params body scope lpos] [] pos) (vFW k x lpos qual js R fa) :=
 ztE hT hHd hB hcode hq hdef O.S O.free O.caps O.cell hz hps SF bind (hbody O.S) hR hr hg he hdb hst hst2
def zpk (vs : Array Value) (c P : Addr) : Bool := (match (vs[11]? : Option Value) with | some (.ref P') => P' == P | _ => false) &&
   (match vs.getD 18 .none with | .str _ _=>true | _=>false) && (match vs.getD 7 .none with | .int _ _=>true | _=>false) &&
   (match vs.getD 9 .none with | .bool _=>true | _=>false) && (match vs.getD 10 .none with | .int _ _=>true | _=>false) && c != P
theorem zmN {K:PySem.W.Frag} {x:Str} {f tc tp:Addr} {oc kV dc pm ct:Value} {od an odc:Option Addr} {sl slc:Array (Option Value)} {st:Stmt} {vs:Array Value} (a:PySem.W.nsIn K mainGlobals x=some (some (.ref f)))
  (l:K.lookup f=some ⟨oc,od, .func (PySem.W.fnOf x x (zan st) (zaj st) (zab st) .none kV dc pm an (.ref tc) ct),sl⟩) (lc:K.lookup tc=some ⟨.type "code",odc, .fields vs,slc⟩) (hv:vs[11]? = some (.ref tp)) (hh:zpk vs tc tp=true) :
  PySem.W.tabIn K x=some (tc,tp)∧PySem.W.codeHdIn K tc tp=true:=by
 constructor
 ·unfold PySem.W.tabIn
  rw [a]
  simp only [l,lc,hv]
 ·unfold PySem.W.codeHdIn
  rw [lc]
  exact hh
@[elab_as_elim] theorem us0 {P:List Value→Prop} (us:List Value) (h:us.length=0) (f:P []):P us:=by cases us with | nil=>exact f | cons _ _=>simp at h
@[elab_as_elim] theorem us1 {P:List Value→Prop} (us:List Value) (h:us.length=1) (f:∀ a,P [a]):P us:=by
 cases us with
 | nil=>simp at h
 | cons a r=>exact us0 r (by simpa using h) (f a)
@[elab_as_elim] theorem us2 {P:List Value→Prop} (us:List Value) (h:us.length=2) (f:∀ a b,P [a,b]):P us:=by
 cases us with
 | nil=>simp at h
 | cons a r=>exact us1 (P:=fun r=>P (a :: r)) r (by simpa using h) (f a)
@[elab_as_elim] theorem us3 {P:List Value→Prop} (us:List Value) (h:us.length=3) (f:∀ a b c,P [a,b,c]):P us:=by
 cases us with
 | nil=>simp at h
 | cons a r=>exact us2 (P:=fun r=>P (a :: r)) r (by simpa using h) (f a)
abbrev zgU (x:Str):Str:=x ++ ".<locals>." ++ "<lambda>"
def zlm (K:PySem.W.Frag) (ts:List Addr):Sp:=fun vs H Q _=>∃ (a:Addr) (ns:List Int),vs=[.ref a]∧SqL K H a (ns.map V.int)∧ns.length ≤ 63∧(∀ P ∈ ts,H P=some (.tbl #[]))∧∀ H',Q (.bl true) H'
theorem zoD {K:PySem.W.Frag} {H:Hp} {a:Addr} {xs:List V} {ts:List Addr} (h:SqL K H a xs) (hT:∀ P ∈ ts,H P=some (.tbl #[])):SqL K (fun b=>if b ∈ ts then none else H b) a xs:=by
 rcases h with (h | ⟨o,h⟩) | h
 ·exact .inl (.inl (by
   have:a ∉ ts:=fun z=>by rw [hT a z] at h;cases h
   show (if a ∈ ts then none else H a)=_
   rw [if_neg this];exact h))
 ·exact .inl (.inr ⟨o,by
   have:a ∉ ts:=fun z=>by rw [hT a z] at h;cases h
   show (if a ∈ ts then none else H a)=_
   rw [if_neg this];exact h⟩)
 ·exact .inr h
section
variable {P:Program} {w:World} {K:PySem.W.Frag} {mg:Str→Option Value} {base:Heap}
theorem zp3 {fa:Addr} {fd:FuncData} {k:Nat} {F:List A→Mo A} {ts:List Addr} (tl:List (Addr × Str × Pos × Str)) (hnd:(tl.map (·.1)).Nodup) (hsub:∀ t ∈ tl,t.1 ∈ ts) (hT:∀ t ∈ tl,∃ c,PySem.W.tabIn K t.2.1=some (c,t.1))
  (h1:FnOk P w K mg base (CXE P w) k fa fd ["_law_script"] (spV K 1 F)) (hF:∀ ns:List Int,ns.length ≤ 63→∃ Ω,F [.scr ns] (tl.map fun t => .tab t.2.1 t.2.2.1 t.2.2.2)=some (.ok (.bl true),Ω)) :
  FnOk P w K mg base CX0 k fa fd ["_law_script"] (zlm K ts):=by
 refine (zmw h1).imp fun vs H Q E hq=>?_
 obtain ⟨a,ns,rfl,hs,hl,hTs,q⟩:=hq
 obtain ⟨Ω,e⟩:=hF ns hl
 refine ⟨rfl,fun b=>if b ∈ ts then none else H b,tl.map (·.1),tl.map (fun t => .tab t.2.1 t.2.2.1 t.2.2.2),[.scr ns],⟨fun b o z=>?_,hnd,by simp,fun b hb=>?_,fun j c b h1 h2=>?_⟩, .cons (by simp only [Den];exact ⟨a,rfl,zoD hs hTs⟩) .nil,?_⟩
 ·by_cases hb:b ∈ ts
  ·have z':(if b ∈ ts then none else H b)=some o:=z
   rw [if_pos hb] at z';cases z'
  ·have z':(if b ∈ ts then none else H b)=some o:=z
   rw [if_neg hb] at z';exact z'
 ·obtain ⟨t,ht,rfl⟩:=List.mem_map.mp hb
  exact ⟨_,hTs _ (hsub t ht)⟩
 ·rw [List.getElem?_map] at h1 h2
  cases ej:tl[j]? with
  | none=>rw [ej] at h1;cases h1
  | some t =>
   rw [ej] at h1 h2
   cases h1;cases h2
   have ht:=List.mem_of_getElem? ej
   refine ⟨if_pos (hsub t ht),hT t ht,#[],hTs _ (hsub t ht),trivial, .inl rfl⟩
 rw [e]
 intro v H' G' ι' _ _ d
 simp only [Den] at d
 subst d
 exact q H'
end
open Classical in
noncomputable def fwR (g:A→Mo A) (a:A):Mo A:=fun Ω=>if h:∃ (ds:List A) (m:Nat),zaF Ω a=some ds∧m ≤ ds.length∧ds.length ≤ 100000∧∀ i d,ds[i]? = some d→g d Ω=some (.ok (.bl (decide (m ≤ i))),Ω) then some (.ok (.int (h.choose_spec.choose:Nat)),Ω) else none
theorem znZ {g:A→Mo A} {a:A} {Ω:Sto} {ds:List A} {m:Nat} (h1:zaF Ω a=some ds) (h2:m ≤ ds.length) (h3:ds.length ≤ 100000) (h4:∀ i d,ds[i]? = some d→g d Ω=some (.ok (.bl (decide (m ≤ i))),Ω)):fwR g a Ω=some (.ok (.int (m:Int)),Ω):=by
 have h:∃ (ds:List A) (m:Nat),zaF Ω a=some ds∧m ≤ ds.length∧ds.length ≤ 100000∧∀ i d,ds[i]? = some d→g d Ω=some (.ok (.bl (decide (m ≤ i))),Ω):=⟨ds,m,h1,h2,h3,h4⟩
 have key:∀ (ds':List A) (m':Nat),zaF Ω a=some ds'→m' ≤ ds'.length→(∀ i d,ds'[i]? = some d→g d Ω=some (.ok (.bl (decide (m' ≤ i))),Ω))→m'=m:=by
  intro ds' m' e1 e2 e4
  rw [h1] at e1
  cases e1
  rcases Nat.lt_trichotomy m' m with z | z | z
  ·have hl:m' < ds.length:=by omega
   have q1:=h4 m' _ (List.getElem?_eq_getElem hl)
   have q2:=e4 m' _ (List.getElem?_eq_getElem hl)
   rw [q1] at q2
   simp at q2;omega
  ·exact z
  ·have hl:m < ds.length:=by omega
   have q1:=h4 m _ (List.getElem?_eq_getElem hl)
   have q2:=e4 m _ (List.getElem?_eq_getElem hl)
   rw [q1] at q2
   simp at q2;omega
 unfold fwR
 rw [dif_pos h]
 obtain ⟨e1,e2,e3,e4⟩:=h.choose_spec.choose_spec
 rw [key _ _ e1 e2 e4]
theorem zoK {g:A→Mo A} {a:A} {Ω:Sto} {r:Rs A × Sto} (h:fwR g a Ω=some r):∃ (ds:List A) (m:Nat),zaF Ω a=some ds∧m ≤ ds.length∧ds.length ≤ 100000∧(∀ i d,ds[i]? = some d→g d Ω=some (.ok (.bl (decide (m ≤ i))),Ω))∧r=(.ok (.int (m:Int)),Ω):=by
 unfold fwR at h
 split at h
 ·rename_i hh
  cases h
  obtain ⟨e1,e2,e3,e4⟩:=hh.choose_spec.choose_spec
  exact ⟨_,_,e1,e2,e3,e4,rfl⟩
 ·cases h
end V2
namespace M
open PySem V2
noncomputable def zby (lf:Addr) (g:A→Mo A):MS :=
 (sSeq (sAsg (vOp (gDiv) (vOp (gAdd false) (vVar 2) (vVar 3)) (cI 2)) (gN 4))
   (sIf (zay (vLam 1 lf g (vOp gIx (vVar 0) (vVar 4))))
    (sAsg (vVar 4) (gN 3))
    (sAsg (vOp (gAdd false) (vVar 4) (cI 1)) (gN 2))))
noncomputable def za2 (lf:Addr) (g:A→Mo A):Ev→Mo Bool :=
 (zay (vOp gLt (vVar 2) (vVar 3)))
noncomputable def zbu (lf:Addr) (g:A→Mo A):MS :=
 (sSeq (sAsg (cI 0) (gN 2))
  (sSeq (sAsg (vCl gLen (zad (vVar 0) a0)) (gN 3))
  (sSeq (fun ρ Ω=>zdF (za2 lf g) (zby lf g) ((fun _ _=>1000000) ρ Ω) ρ Ω)
  (sRet (vVar 2)))))
end M
namespace V2
open PySem PySem.Spec PyProof.Rows L2
section
variable {X:Cx} {W:WX}
end
end V2
namespace M
open PySem V2
end M
namespace L2
open PySem PySem.Spec PyProof.Rows
section
variable {prog:Program} {w:World} {A:Around} {E:Value→Shared→Prop} {h:Heap} {g:Array GenState} {d:Drawn} {t:Nat} {os:OsState}
variable {nm q:Str} {C N:Addr} {bs bm bmB:List Value} {hdct:Bool} {sn:List Str} {sub:List Value} {ab:Bool} {col:Option Bool} {dd:Option Addr} {k0 k1 k2 k3 k5:Option Value} {B newId initId:String}
theorem zjL (F:ExcBaseFacts B newId initId bmB) (T:OwnTail h bmB bm) {mN:Str→Option Value} {rest:List Value} {fI:Addr} {oI:Obj} {Q:Fin→Shared→Prop}
  (hC:h.get? C=some (excClassObj nm q C N bs bm hdct sn sub ab col dd k0 k1 k2 k3 k5 newId)) (hn:h.Ns N mN) (hi:mN "__init__" = some (.ref fI))
  (hfI:h.get? fI=some oI) (hfc:oI.cls = .type "function")
  (hq:∀ h' e,Heap.MadeExcOf h h' e (.ref C) rest→h.objs.size ≤ e →
   wpAny (model prog w) A (call (.ref fI) (.ref e :: rest)) (fun r s'=>r = .none∧Q (.done (.ret (.ref e))) s') E ⟨h',g,d,t,os⟩) (hrest:rest.length ≤ sizeLine:=by size_fits) :
  wpAny (model prog w) A (Builtin.«type.__call__» ⟨.ref C :: rest,[]⟩) Q E ⟨h,g,d,t,os⟩:=by
 have hBn:bmB.contains (.type B)=true:=F.hasB
 repeat (first | with_reducible refine wpAny_loadPart_at hC ?_ | with_reducible refine wpAny_madeBy_exc hC ?_ | wp_step)
 refine codeAny_call_builtin_code (Code.quiet_builtin _ F.quiet) (wpAny_check_new_subU F hBn T hC ?_)
 refine codeAny_exc_new_subU F hBn F T hC ?_ hrest
 show wpAny _ _ _ _ _ _
 have hC₁:=Heap.get?_push_of_some { cls := .ref C,data := .fields #[.ref h.objs.size, .none, .none, .none, .bool false, .none] }
  (Heap.get?_push_of_some { cls := .type "tuple",data := .seq rest.toArray } hC)
 have hfI₁:=Heap.get?_push_of_some { cls := .ref C,data := .fields #[.ref h.objs.size, .none, .none, .none, .bool false, .none] }
  (Heap.get?_push_of_some { cls := .type "tuple",data := .seq rest.toArray } hfI)
 have hn₁:((h.push { cls := .type "tuple",data := .seq rest.toArray }).push { cls := .ref C,data := .fields #[.ref h.objs.size, .none, .none, .none, .bool false, .none] }).Ns N mN :=
  let ⟨o,es,ep,e,r⟩:=hn; ⟨o,es,ep,Heap.get?_push_of_some _ (Heap.get?_push_of_some _ e),r⟩
 have hget:((h.push { cls := .type "tuple",data := .seq rest.toArray }).push
   { cls := .ref C,data := .fields #[.ref h.objs.size, .none, .none, .none, .bool false, .none] }).get? (h.objs.size + 1)=some
   { cls := .ref C,data := .fields #[.ref h.objs.size, .none, .none, .none, .bool false, .none] }:=by heap_get
 have hcC:(Value.ref C :: bm).contains (.ref C)=true:=by simp
 have T₁:=T.keeps (h':=(h.push { cls := .type "tuple",data := .seq rest.toArray }).push { cls := .ref C,data := .fields #[.ref h.objs.size, .none, .none, .none, .bool false, .none] })
  fun b o e=>Heap.get?_push_of_some _ (Heap.get?_push_of_some _ e)
 unfold isInstance
 repeat (first | with_reducible refine wpAny_loadPart_at hget ?_ | (with_reducible refine wpAny_isSubtype_exc hC₁ ?_;rw [hcC]) | wp_step)
 show wpAny _ _ (typeLookup (.ref C) _) _ _ _
 refine wpAny_typeLookup_tail hC₁ hn₁ T₁ F.mroIs F.init.lookup ?_
 rw [hi]
 refine wpAny_holding (wpAny_bind ?_)
 unfold bindSpecial
 refine wpAny_bind (wpAny_typeOf (T := "function") ⟨_,hfI₁,hfc⟩ ?_)
 rw [if_pos (by decide)]
 refine wpAny_pure (wpAny_bind (wpAny_mono (hq _ (h.objs.size + 1) ⟨fun b o hb=>Heap.get?_push_of_some _ (Heap.get?_push_of_some _ hb),Heap.get?_none_of_le (Nat.le_succ _),h.objs.size,hget,Heap.get?_none_of_le (Nat.le_refl _),?_⟩ (Nat.le_succ _)) (fun r s' hr=>?_) fun _ _ x=>x))
 ·exact Heap.get?_push_of_some _ (Heap.get?_push_at rfl rfl)
 ·obtain ⟨rfl,hQ⟩:=hr
  wp_walk
  exact hQ
theorem zqh (F:ExcBaseFacts B newId initId bmB) (T:OwnTail h bmB bm) {mN:Str→Option Value} {rest:List Value} {fI:Addr} {oI:Obj} {Q:Value→Shared→Prop}
  (hC:h.get? C=some (excClassObj nm q C N bs bm hdct sn sub ab col dd k0 k1 k2 k3 k5 newId)) (hn:h.Ns N mN) (hi:mN "__init__" = some (.ref fI))
  (hfI:h.get? fI=some oI) (hfc:oI.cls = .type "function")
  (hq:∀ h' e,Heap.MadeExcOf h h' e (.ref C) rest→h.objs.size ≤ e →
   wpAny (model prog w) (A.under (.builtin "type.__call__" ⟨.ref C :: rest,[]⟩)) (call (.ref fI) (.ref e :: rest)) (fun r s'=>r = .none∧Q (.ref e) s') E ⟨h',g,d,t,os⟩) (hrest:rest.length ≤ sizeLine:=by size_fits) :
  wpAny (model prog w) A (call (.ref C) rest) Q E ⟨h,g,d,t,os⟩:=by
 have f1:=tc_lookup
 have f2:=tc_bind (.ref C)
 have hT:(⟨h,g,d,t,os⟩ : Shared).TypeIs (.ref C) "type":=⟨_,hC,rfl⟩
 refine wpAny_call (codeAny_of_tree ?_)
 show wpAny _ _ (callAny (.ref C) _) _ _ _
 repeat (any_goals (first | assumption | with_reducible refine wpAny_loadPart_at hC ?_ | wp_step))
 refine ⟨rfl,?_⟩
 refine codeAny_call_builtin_at (Code.quiet_builtin _ (by decide +kernel)) entry_typeCall (wpAny_check_type_call_sub hC (zjL (hrest:=hrest) F T hC hn hi hfI hfc fun h' e hm hz=>?_))
 exact hq h' e hm hz
end
end L2
namespace L2
open PySem PySem.Spec PyProof.Rows
abbrev zdy (C t:Addr) (dx:Option Addr):Obj:={ cls := .ref C,dict:=dx,data := .fields #[.ref t, .none, .none, .none, .bool false, .none] }
section
variable {prog:Program} {w:World} {A:Around} {E:Value→Shared→Prop} {h:Heap} {g:Array GenState} {d:Drawn} {t:Nat} {os:OsState}
variable {nm q:Str} {C N:Addr} {bs bm bmB:List Value} {hdct:Bool} {sn:List Str} {sub:List Value} {ab:Bool} {col:Option Bool} {dd:Option Addr} {k0 k1 k2 k3 k5:Option Value} {B newId initId:String}
theorem zri (F:ExcBaseFacts B newId initId bmB) (T:OwnTail h bmB bm) {v:Value} {e t0:Addr} {Q:Value→Shared→Prop}
  (hC:h.get? C=some (excClassObj nm q C N bs bm hdct sn sub ab col dd k0 k1 k2 k3 k5 newId)) (he:h.get? e=some (zdy C t0 none))
  (hq:∀ h' t1,(∀ b o,b ≠ e→h.get? b=some o→h'.get? b=some o)→h'.get? e=some (zdy C t1 none)→Q .none ⟨h',g,d,t,os⟩) :
  wpAny (model prog w) A (call (.builtin initId) [.ref e,v]) Q E ⟨h,g,d,t,os⟩:=by
 refine wpAny_call (codeAny_call_builtin F.init.plain F.initEntry (wpAny_check_init_subU F T hC he rfl ?_))
 wp_walk
 refine hq _ h.objs.size (fun b o hb hbo=>?_) ?_
 ·rw [Heap.get?_update_other _ _ (Ne.symm hb)]
  exact Heap.get?_push_of_some _ hbo
 ·rw [Heap.get?_update_self _ (Heap.get?_push_of_some _ he) rfl]
  rfl
end
end L2
namespace L2
open PySem PySem.Spec PyProof.Rows Builtin Builtin.ObjectAttr
theorem zkA {h:Heap} {bmB tl:List Value} (T:OwnTail h bmB tl) (self:Value) (what:Str):refuseLoop self what tl=refuseLoop self what bmB:=by
 induction T with
 | base=>rfl
 | own _ _ _ _ ih=>rw [refuseLoop_ref,ih]
theorem zem {M:Model} {A:Around} {E:Value→Shared→Prop} {K:PySem.W.Frag} {s:Shared} {C:Addr} {n:Str} {y:Option Value} {Q:Option Value→Shared→Prop} (X:K.In s.heap) (e:PySem.W.findIn K (.ref C) n=some y) (q:Q y s):wpAny M A (typeLookup (.ref C) n) Q E s :=
 (PySem.W.looks_findIn X e).here q
section
variable {prog:Program} {w:World} {A:Around} {E:Value→Shared→Prop} {h:Heap} {g:Array GenState} {d:Drawn} {t:Nat} {os:OsState} {K:PySem.W.Frag}
variable {nm q:Str} {C N:Addr} {bs bm:List Value} {sn:List Str} {sub:List Value} {ab:Bool} {col:Option Bool} {dd:Option Addr} {k0 k1 k2 k3 k5:Option Value} {newId:String}
set_option maxHeartbeats 2000000 in
theorem zsl {Q:Unit→Shared→Prop} {name:Str} {v:Value} {e t0:Addr} (X:K.In h) (T:OwnTail h bmVE bm)
  (hC:h.get? C=some (excClassObj nm q C N bs bm true sn sub ab col dd k0 k1 k2 k3 k5 newId)) (he:h.get? e=some (zdy C t0 none))
  (hs:PySem.W.findIn K (.ref C) "__setattr__" = some (some (.builtin "object.__setattr__"))) (hf:PySem.W.findIn K (.ref C) name=some none)
  (hq:∀ h' tk' dx,h.objs.size ≤ dx→(∀ b o,b ≠ e→h.get? b=some o→h'.get? b=some o)→h'.get? e=some (zdy C t0 (some dx))→h'.Ns1 dx (fun y=>if y=name then some v else none)→Q () ⟨h',g,d,tk',os⟩) :
  wpAny (model prog w) A (setAttr (.ref e) name v) Q E ⟨h,g,d,t,os⟩:=by
 have SF:=PySem.F.store_ValueError
 have f3:=SF.slot.bind (.ref e)
 have hpass:=SF.passes (.ref e)
 have hcont:(Value.ref C :: bm).contains (.type "object")=true:=by rw [List.contains_cons,T.hasType (b:=true) (by decide),Bool.or_true]
 have hcheck:∀ {nameV:Value} {tk:Nat} {Q':Unit→Shared→Prop},Q' () ⟨h,g,d,tk,os⟩→∀ (A':Around) (E':Value→Shared→Prop),wpAny (model prog w) A' (checkBuiltinCall "object.__setattr__" ⟨[.ref e,nameV,v],[]⟩) Q' E' ⟨h,g,d,tk,os⟩:=by
  intro nameV tk Q' hq' A' E'
  have ha:=SF.args (.ref e) nameV v
  simp only [checkBuiltinCall,SF.kind,SF.split]
  refine wpAny_bind ?_
  unfold isInstance
  repeat (first | with_reducible refine wpAny_loadPart_at he ?_ | (with_reducible refine wpAny_isSubtype_exc hC ?_;rw [hcont]) | wp_step)
  exact hq'
 have hty:∀ {tk:Nat} {Q':Value→Shared→Prop} {A':Around} {E':Value→Shared→Prop},Q' (.ref C) ⟨h,g,d,tk,os⟩→wpAny (model prog w) A' (typeOf (.ref e)) Q' E' ⟨h,g,d,tk,os⟩:=by
  intro tk Q' A' E' hq'
  unfold typeOf
  repeat (first | with_reducible refine wpAny_loadPart_at he ?_ | wp_step)
  exact hq'
 unfold setAttr callSpecial? specialOf
 refine wpAny_bind (wpAny_mkText (wpAny_bind (wpAny_bind (wpAny_bind (hty (zem (s:=⟨h,g,d,t + 1,os⟩) X hs (wpAny_holding ?_)))))))
 rw [f3]
 refine wpAny_bind (wpAny_pure (wpAny_bind (wpAny_call (codeAny_call_builtin SF.slot.plain SF.entry (hcheck ?_ _ _)))))
 show wpAny _ _ (Builtin.«object.__setattr__» ⟨[.ref e, .str name t,v],[]⟩) _ _ _
 rw [PySem.W.osa_eq,refuse_eq]
 refine wpAny_bind (wpAny_bind (hty (wpAny_bind (wpAny_mroOf_exc hC ?_))))
 rw [refuseLoop_ref,zkA T,hpass]
 refine wpAny_pure (wpAny_bind (hty (wpAny_bind (zem (s:=⟨h,g,d,t + 1,os⟩) X hf (wpAny_bind (wpAny_pure ?_))))))
 show wpAny _ _ (storeInOwnDict _ _ _ _ _ _) _ _ _
 unfold storeInOwnDict
 refine wpAny_bind (wpAny_pure ?_)
 rw [if_neg (by simp)]
 have he₁:(h.push { cls := .type "dict",data := .dict #[] }).get? e=some (zdy C t0 none):=Heap.get?_push_of_some _ he
 have hxs:e ≠ h.objs.size:=Nat.ne_of_lt (Heap.lt_size he)
 have hgd:((h.push { cls := .type "dict",data := .dict #[] }).update e fun o=>{ cls:=o.cls,dict:=some h.objs.size,data:=o.data,slots:=o.slots }).get? h.objs.size
   = some { cls := .type "dict",data := .dict #[] }:=(Heap.get?_update_ne _ _ _ _ hxs.symm).trans (Heap.get?_push_at rfl rfl)
 have hnd:((h.push { cls := .type "dict",data := .dict #[] }).update e fun o=>{ cls:=o.cls,dict:=some h.objs.size,data:=o.data,slots:=o.slots }).Ns h.objs.size (fun _=>none) :=
  ⟨_,#[],_,hgd,rfl,fun e he=>absurd he (by simp),fun _=>rfl⟩
 have hex:((h.push { cls := .type "dict",data := .dict #[] }).update e fun o=>{ cls:=o.cls,dict:=some h.objs.size,data:=o.data,slots:=o.slots }).get? e=some (zdy C t0 (some h.objs.size)) :=
  Heap.get?_update_self _ he₁ rfl
 refine wpAny_bind ?_
 unfold ownDictForStores instanceDict
 repeat (first | with_reducible refine wpAny_loadPart_at he ?_ | with_reducible refine wpAny_loadPart_at hC ?_ | with_reducible refine wpAny_alloc' ?_ | with_reducible refine wpAny_update' he₁ ?_ | ((fail_if_success with_reducible refine wpAny_nsSet1 (Heap.Ns1.of_empty hnd) fun h' hn' hs'=>?_);wp_step))
 refine wpAny_nsSet1 (Heap.Ns1.of_empty hnd) fun h' hn' hs'=>?_
 obtain ⟨oD,esD,epD,hoD,hdD,hcD⟩:=hn'.count (Within.cons name v Within.nil)
 refine wpAny_bind (wpAny_lookBehind hoD (by rw [hdD];exact pastItsLine_dict (Nat.le_trans hcD (by rw [List.length_cons,List.length_nil,sizeLine_eq];omega))) ?_)
 wp_walk
 refine hq h' _ h.objs.size (Nat.le_refl _) (fun b ob hbx hb=>?_) ((hs'.2 e hxs).trans hex) hn'
 exact (hs'.2 b (Nat.ne_of_lt (Heap.lt_size hb))).trans ((Heap.get?_update_ne _ _ _ _ hbx).trans (Heap.get?_push_of_some _ hb))
end
end L2
namespace L2
open PySem PySem.Spec PyProof.Rows
theorem zht:(Str.empty:Str).length=0:=by decide
theorem text_len {y:Str} {i:Int} (hy:y.length ≤ 1000) (hl:i.natAbs.log2 < 1920):(Str.empty ++ y ++ Str.ofString (toString i)).length ≤ 3000:=by
 have e:=int_text_length_le (k:=1920) (by decide) hl
 rw [strLen_append,strLen_append,zht,PySem.ofString_length];omega
section
variable {X:Cx}
def zpN (j:Nat):TE:=fun σ H Q=>∃ i,σ[j]? = some (some (.int i))∧i.natAbs.log2 < 1920∧∀ x,Q (.str x) H
theorem zlf {j c:Nat} {a y:Str} {p1 p2 p3 pos:Pos} (hN:X.N[j]? = some a) (hv:Vis X.env.scope a) (hd:(a == ("__debug__" : Str))=false:=by decide) (hcd:(a == ("__classdict__" : Str))=false:=by decide) (hy:y.length ≤ 1000:=by decide) :
  PE X (.JoinedStr [.Constant (.str y) c p1, .FormattedValue (.Name a p2) (-1) none p3] pos) (zpN j):=by
 intro pins s σ H Q I ⟨i,hi,hl,q⟩
 refine JoinedStr_many (joinParts_cons (Calls.Constant_str ⟨?_,joinParts_cons (FormattedValue_plain (thn (zgH hN hv hd hcd pins _ σ H (fun v H'=>v = .int i∧H'=H) (I.tok _) ⟨_,hi,rfl,rfl⟩) fun u s1 ⟨v,H1,I1,r1,e1,e2⟩=>?_))⟩))
 ·rw [strLen_append,zht,sizeLine_eq];omega
 ·subst e1 e2
  obtain ⟨t,rfl⟩:=r1
  have z:=text_len hy hl
  refine formatField_int_small hl ⟨by rw [sizeLine_eq];omega,joinParts_nil ⟨.str _,_,(I1.tok _),⟨_,rfl⟩,q _⟩ (by rw [sizeLine_eq];omega)⟩
theorem zoX {j c c':Nat} {a y z:Str} {p1 p2 p3 p4 pos:Pos} (hN:X.N[j]? = some a) (hv:Vis X.env.scope a) (hd:(a == ("__debug__" : Str))=false:=by decide) (hcd:(a == ("__classdict__" : Str))=false:=by decide) (hy:y.length ≤ 1000:=by decide) (hz:z.length ≤ 1000:=by decide) :
  PE X (.JoinedStr [.Constant (.str y) c p1, .FormattedValue (.Name a p2) (-1) none p3, .Constant (.str z) c' p4] pos) (zpN j):=by
 intro pins s σ H Q I ⟨i,hi,hl,q⟩
 refine JoinedStr_many (joinParts_cons (Calls.Constant_str ⟨?_,joinParts_cons (FormattedValue_plain (thn (zgH hN hv hd hcd pins _ σ H (fun v H'=>v = .int i∧H'=H) (I.tok _) ⟨_,hi,rfl,rfl⟩) fun u s1 ⟨v,H1,I1,r1,e1,e2⟩=>?_))⟩))
 ·rw [strLen_append,zht,sizeLine_eq];omega
 ·subst e1 e2
  obtain ⟨t,rfl⟩:=r1
  have y1:=text_len hy hl
  have y2:(Str.empty ++ y ++ Str.ofString (toString i) ++ z).length ≤ 4000:=by rw [strLen_append];omega
  refine formatField_int_small hl ⟨by rw [sizeLine_eq];omega,joinParts_cons (Calls.Constant_str ⟨by rw [sizeLine_eq];omega,joinParts_nil ⟨.str _,_,((I1.tok _).tok _),⟨_,rfl⟩,q _⟩ (by rw [sizeLine_eq];omega)⟩)⟩
end
end L2
namespace L2
open PySem PySem.Spec PyProof.Rows
theorem zl4 {K:PySem.W.Frag} {h:Heap} {N:Addr} {mg:Str→Option Value} {n:Str} {v:Value} (X:K.In h) (G:h.Ns N mg) (e:PySem.W.nsIn K N n=some (some v)):mg n=some v:=by
 obtain ⟨o,es,ep,ho,hd,_,hf⟩:=G
 unfold PySem.W.nsIn at e
 split at e
 ·rename_i c d es' n' sl q
  have:=X _ _ q
  rw [ho] at this
  cases this
  cases hd
  split at e
  ·rename_i en he
   cases e
   rw [← hf]
   unfold nsFind findBy
   rw [← Array.find?_toList,he]
   rfl
  ·split at e <;> cases e
 ·cases e
def zjF (K:PySem.W.Frag) (C fI:Addr):Bool:=match K.lookup C with
 | some ⟨.type "type",_, .cls cd,sl⟩=>(match cd.mro,sl.toList with
  | .ref C' :: bm,[_,_,_,_,some (.builtin n),_]=>C' == C && n == "ValueError.__new__" && !cd.hasDel && cd.hasDict && PySem.W.tailIn K bmVE bm && PySem.W.nsOkIn K cd.ns && PySem.W.nsIn K cd.ns "__init__" == some (some (.ref fI))
  | _,_=>false)
 | _=>false
structure OwnI (K:PySem.W.Frag) (C fI:Addr) (fld:Str):Prop where
 inK:zjF K C fI=true
 fn:PySem.W.typeIn K (.ref fI)=some (.type "function")
 setA:PySem.W.findIn K (.ref C) "__setattr__" = some (some (.builtin "object.__setattr__"))
 nof:PySem.W.findIn K (.ref C) fld=some none
theorem OwnI.obj {K:PySem.W.Frag} {C fI:Addr} {fld:Str} (O:OwnI K C fI fld) {h:Heap} (X:K.In h):∃ bm N nm q bs sn sub ab col dd k0 k1 k2 k3 k5 mN oI,h.get? C=some (excClassObj nm q C N bs bm true sn sub ab col dd k0 k1 k2 k3 k5 "ValueError.__new__")∧h.Ns N mN∧mN "__init__" = some (.ref fI)∧OwnTail h bmVE bm∧h.get? fI=some oI∧oI.cls = .type "function":=by
 have q:=O.inK
 obtain ⟨oI,ho',hc'⟩:=Option.map_eq_some_iff.mp O.fn
 unfold zjF at q
 split at q
 ·rename_i dd cd sl ho
  split at q
  ·rename_i C' bm k0 k1 k2 k3 n k5 hm hs
   simp only [Bool.and_eq_true,beq_iff_eq,Bool.not_eq_true'] at q
   obtain ⟨⟨⟨⟨⟨⟨rfl,rfl⟩,hdel⟩,hdi⟩,ht⟩,hok⟩,hni⟩:=q
   obtain ⟨nm,bs,mro,ns,qn,hd,sn,sub,ab,col,del⟩:=cd
   dsimp only at hm hdel hok hni hdi
   subst hm hdel hdi
   have hsl:sl = #[k0,k1,k2,k3,some (.builtin "ValueError.__new__"),k5]:=by
    obtain ⟨l⟩:=sl
    simp only at hs
    rw [hs]
   subst hsl
   exact ⟨bm,ns,nm,qn,bs,sn,sub,ab,col,dd,k0,k1,k2,k3,k5,_,oI,X _ _ ho, .of_isNs (PySem.W.isNs_of_in X hok),zl4 X (.of_isNs (PySem.W.isNs_of_in X hok)) hni,PySem.W.tail_of_in X ht,X _ _ ho',hc'⟩
  ·cases q
 ·cases q
structure zrl (K:PySem.W.Frag) (R:Addr):Prop where
 reads:PySem.W.readsIn K R (.type "type")=true
 find:PySem.W.findCls K (.ref R) (.type "type") "__init__" = some (.val (.builtin "ValueError.__init__"))
 ga:PySem.W.specialIn K (.ref R) "__getattribute__" = some (some (.builtin "type.__getattribute__"))
theorem zob:PySem.W.handedIn (.builtin "ValueError.__init__")=true:=by decide +kernel
end L2
namespace L2
open PySem PySem.Spec PyProof.Rows
def zo6 (X:Cx) (H:Hp) (s1:Shared) (e C:Addr) (fld:Str) (i:Int) (s':Shared):Prop:=∃ dx t1,s1.heap.objs.size ≤ dx∧dx ≠ e∧s'.os=s1.os∧AllBare s'.gens ∧
 Un (frs X.stack) [] H (upd H dx (.xd [(fld, .int i)])) s1.heap s'.heap∧HOk X.prog X.w (upd H dx (.xd [(fld, .int i)])) s'.heap∧s'.heap.get? e=some (zdy C t1 (some dx))
section
variable {X:Cx} {pins:List (Addr × Obj)} {σ:St} {H:Hp} {s1:Shared} {C fI R e:Addr} {fld qual rk sf pa:Str} {st:Stmt} {fd:FuncData} {t:Tok} {i:Int} {h2:Heap} {k:Nat} {je:Expr} {np ap cp ep p1 p2 ap2 p3 apos:Pos}
theorem Inv.zra {Z:Cx} {s0 s3:Shared} {τ:St} {H:Hp} (J:Inv Z [] τ H s3) (hH:Z.H₀=H) (hex:Z.ex=[]) (hos:s0.os=Z.s₀.os) (hsz:s0.heap.objs.size ≤ Z.s₀.heap.objs.size) (k:∀ b o,s0.heap.get? b=some o→s3.heap.get? b=some o)
  (bs:∀ b o,Z.base.get? b=some o→s0.heap.get? b=some o∧H b=none) (bsz:Z.base.objs.size ≤ s0.heap.objs.size) (funs:s0.heap.FunFrames Z.base Z.outer):Inv { Z with s₀:=s0 } [] τ H s3 :=
 ⟨⟨J.ok.mod,J.ok.kind,J.ok.glob,J.ok.blt,Nat.le_trans hsz J.ok.above,J.ok.inj,J.ok.has,fun x c a b=>Nat.le_trans hsz (J.ok.cab x c a b),J.ok.hd,J.ok.frames,J.ok.stk,J.ok.exf,fun b o h=>by subst hH;exact bs b o h,bsz,J.ok.noex,J.ok.exfs,funs,J.ok.frf⟩,
  J.os.trans hos.symm,J.bare,by subst hH;exact Un.kept k,J.loc,J.cell,J.free,J.freeC,J.pin,J.hok,J.len⟩
end
end L2
namespace L2
open PySem PySem.Spec PyProof.Rows
section
variable {X:Cx} {pins:List (Addr × Obj)} {σ:St} {H:Hp} {s1:Shared} {C fI R e:Addr} {fld qual rk sf pa:Str} {st:Stmt} {fd:FuncData} {t:Tok} {i:Int} {h2:Heap} {k:Nat} {je:Expr} {np ap cp ep p1 p2 ap2 p3 apos:Pos}
structure zlV (st:Stmt) (fld rk sf pa:Str):Prop where
 scope:zaq [sf,pa] [sf,pa] (zab st)
 glob:(zab st).names.lookup rk=some .globalImplicit
 loc0:(zab st).names.lookup sf=some .local
 loc1:(zab st).names.lookup pa=some .local
 dbg:(rk == ("__debug__" : Str))=false∧(sf == ("__debug__" : Str))=false∧(pa == ("__debug__" : Str))=false∧(sf == ("__classdict__" : Str))=false∧(pa == ("__classdict__" : Str))=false
 text:∃ (je:Expr) (np ap cp ep p1 p2 ap2 p3 apos:Pos),zaj st=[.Expr (.Call (.Attribute (.Name rk np) "__init__" ap) [.Name sf p1,je] [] cp) ep, .Assign [.Attribute (.Name sf p2) fld ap2] (.Name pa p3) apos] ∧
  (∀ env,starEach [.Name sf p1,je] env=(false,eval (.Name sf p1) env) :: starEach [je] env)∧(∀ env,starEach [je] env=(false,eval je env) :: starEach [] env) ∧
  (∀ env:Env,∃ pl,eval (.Call (.Attribute (.Name rk np) "__init__" ap) [.Name sf p1,je] [] cp) env=(do
   let ov ← eval (.Name rk np) env
   standAt ap.atName
   let (f,first) ← holding [ov] (getMethod ov "__init__" pl)
   callWith cp f first (backTo cp (starEach [.Name sf p1,je] env)) [])) ∧
  (∀ env,swapsWith (.Call (.Attribute (.Name rk np) "__init__" ap) [.Name sf p1,je] [] cp) none ep.line env=pure false) ∧
  (∀ env,swapsWith (.Name pa p3) (some (.Attribute (.Name sf p2) fld ap2)) apos.line env=pure false) ∧
  (∀ Y:Cx,Y.N=[sf,pa]→Y.env.scope=zab st→PE Y je (zpN 1))
theorem zqL (O:OwnI X.K C fI fld) (B:zrl X.K R) (F:Fun X.K "__init__" qual st fI fd) (S:zlV st fld rk sf pa) (hb:Binds X.K fd [sf,pa] []) (hmR:X.mg rk=some (.ref R))
  (hr:Room (k + 2) X.A) (hi:i.natAbs.log2 < 1920) (I:Inv X pins σ H s1) (M:Heap.MadeExcOf s1.heap h2 e (.ref C) [.int i t]) (he:s1.heap.objs.size ≤ e) {E:Value→Shared→Prop} :
  wpAny (model X.prog X.w) (X.A.under (.builtin "type.__call__" ⟨[.ref C, .int i t],[]⟩)) (call (.ref fI) [.ref e, .int i t]) (fun r s'=>r = .none∧zo6 X H s1 e C fld i s') E { s1 with heap:=h2 }:=by
 obtain ⟨je,np,ap,cp,ep,p1,p2,ap2,p3,apos,hbody,hst,hst2,ht,hs1,hs2,hje⟩:=S.text
 obtain ⟨oc,od,kV,doc,pm,an,cdv,ct,osl,rfl,lk,hcd⟩:=F.ex
 have I2:Inv X pins σ H { s1 with heap:=h2 }:=I.kept (t':=s1.toks) M.keeps
 have e0:=I2.env0.make C [.int i t] []
 have hr':Room (k + 1) (X.A.under (.builtin "type.__call__" ⟨[.ref C, .int i t],[]⟩)):=hr.make C [.int i t] []
 have KX:=I2.kIn
 have lim:=I2.nolimit
 have hlt2:s1.heap.objs.size ≤ h2.objs.size:=by
  obtain ⟨tt,ht',_⟩:=M.there
  exact Nat.le_trans he (Nat.le_of_lt (Heap.lt_size ht'))
 have hkind:∀ y ∈ [sf,pa].zip [Value.ref e,Value.int i t],(zab st).names.lookup y.1=some .local∨((zab st).names.lookup y.1=some .cell∧((cellsFrom (h2.objs.size + 1) (zab st).names []).lookup y.1).isSome=true):=fun ⟨n,v⟩ hy=>by
  rcases S.scope.par n (List.of_mem_zip hy).1 with q | q
  ·exact .inl q
  ·exact .inr ⟨q,PySem.W.cellsFrom_some _ _ _ (.inl q)⟩
 have hb':=hb { s1 with heap:=h2 } [.ref e, .int i t] KX rfl
 rw [List.append_nil] at hb'
 refine wpAny_call (codeAny_call_function hr'.depth (KX _ _ lk) rfl S.scope.co S.scope.gen rfl (PySem.W.codeRec_of KX hcd) (hb' _ _ _ _ ?_))
 refine wpAny_newFunctionEnv_cells S.scope.kind hkind fun env henv s3 x=>?_
 subst henv
 refine ⟨lim.keeps x.toInCall.keep,codeAny_func ?_⟩
 have J:=ze2 (CX:=CX0) (E:=E0) (N:=[sf,pa]) (vs:=[.ref e, .int i]) S.scope hr'.hd e0 rfl (.cons rfl (.cons ⟨t,rfl⟩ .nil)) x
 have J1:=(Inv.zra (s0:=s1) J rfl rfl rfl hlt2 (fun b o h=>x.toInCall.keep _ _ (M.keeps _ _ h)) I.bs (Nat.le_trans I.ok.bsz (Nat.le_trans I.ok.above (Nat.le_of_lt I.lt))) I.stack).wish (fun _ _=>False)
 rw [hbody]
 obtain ⟨tt,htt,htn,_⟩:=M.there
 have hHe:H e=none:=I.hok.fresh he
 have heL:e ≠ h2.objs.size:=Nat.ne_of_lt (Heap.lt_size htt)
 have heF:e ∉ frs X.stack:=fun hb=>by
  rcases List.mem_cons.mp (I.zin e hb) with z | z
  ·exact absurd (z ▸ I.lt) (Nat.not_lt.mpr he)
  ·exact I.nofs he z
 have cells0:∀ y c,(envOfC qual (zab st) h2.objs.size fI cdv).cells.lookup y=some c→c ≠ e:=fun y c h z=>by
  have a1:h2.objs.size < c:=x.above y c (PySem.mem_of_lookup h)
  have a2:=Heap.lt_size htt
  exact absurd (Nat.lt_trans a2 (z ▸ a1)) (Nat.lt_irrefl _)
 have JP:Inv _ [(e,zdy C tt none)] _ H s3:=⟨J1.ok,J1.os,J1.bare,J1.base,J1.loc,J1.cell,J1.free,J1.freeC,fun p hp=>by
  rw [List.mem_singleton.mp (show p ∈ [(e,zdy C tt none)] from hp)]
  exact ⟨x.toInCall.keep _ _ htt,hHe,heL,heF,fun v h=>by cases h⟩,J1.hok,J1.len⟩
 obtain ⟨pl,hpl⟩:=ht (envOfC qual (zab st) h2.objs.size fI cdv)
 refine wpAny_execs_cons (wpAny_Expr_any (MethodCall_ (pl:=pl) (zfu JP S.glob hmR ?_ S.dbg.1) hpl) JP.quiet (hs1 _))
 refine PySem.W.method_cls JP.kIn B.ga (PySem.W.cls_value JP.kIn B.reads B.find zob ?_)
 have JQ:=JP.tok (s3.toks + 1)
 have hpa:=zgv (X:=({ (cxOf CX0 X.prog X.w X.K X.mg X.base [sf,pa] qual (zab st) fI cdv (X.A.under (.builtin "type.__call__" ⟨[.ref C, .int i t],[]⟩)) X.stack { s1 with heap:=h2 } H E0) with s₀:=s1 }:Cx).wish fun _ _=>False) (zgH (i:=0) (pos:=p1) rfl (.inl S.loc0) S.dbg.2.1 S.dbg.2.2.2.1) (zgv (hje _ rfl rfl) zlF (hst2 _)) (hst _)
 refine PyProof.Rows.callWith_builtin1 (wpAny_mono (hpa cp _ _ _ _ (fun vs H1=>H1=H∧∃ y,vs=[.ref e, .str y]) JQ ⟨_,rfl,i,rfl,hi,fun y=>⟨rfl,y,rfl⟩⟩) (fun us s4 ⟨vs,H1,I4,r4,e4,y,ev⟩=>?_) fun _ _ z=>z.elim) (hst _) (by rw [hst2];rfl)
 subst e4 ev
 obtain ⟨u1,u2,rfl,ru1,ru2⟩:=vals2 r4
 obtain rfl:u1 = .ref e:=ru1
 obtain ⟨bm,N,nm,q,bs,sn,sub,ab,col,dd,k0,k1,k2,k3,k5,mN,oI,hC,hN,hni,hT,hfI,hfc⟩:=O.obj I.ok.mod.kin
 obtain ⟨h4,g4,d4,t4,o4⟩:=s4
 have he4:h4.get? e=some (zdy C tt none):=(I4.pin _ (List.mem_append_right _ (List.mem_singleton.mpr rfl))).1
 refine zri PySem.F.excBase_ValueError (hT.keeps I4.bk) (I4.bk _ _ hC) he4 fun h5 t5 k5' he5=>?_
 have I5:Inv _ [] _ H1 ⟨h5,g4,d4,t4,o4⟩:=I4.znP.turned (t':=t4) k5' hHe heL (.inr he) cells0 fun p hp=>absurd (show p ∈ ([] : List (Addr × Obj)) from hp) (by simp)
 have I5p:Inv _ [(e,zdy C t5 none)] _ H1 ⟨h5,g4,d4,t4,o4⟩:=⟨I5.ok,I5.os,I5.bare,I5.base,I5.loc,I5.cell,I5.free,I5.freeC,fun p hp=>by
  rw [List.mem_singleton.mp (show p ∈ [(e,zdy C t5 none)] from hp)]
  exact ⟨he5,hHe,heL,heF,fun v h=>by cases h⟩,I5.hok,I5.len⟩
 refine wpAny_execs_cons (plainObj_wpAny_Assign_Attribute (wpAny_mono (zgH (i:=1) (pos:=p3) rfl (.inl S.loc1) S.dbg.2.2.1 S.dbg.2.2.2.2 _ _ _ _ (fun v H'=>v = .int i∧H'=H1) I5p ⟨_,rfl,rfl,rfl⟩) (fun u6 s6 ⟨v6,H6,I6,r6,e6,e6'⟩ =>
  wpAny_mono (zgH (i:=0) (pos:=p2) rfl (.inl S.loc0) S.dbg.2.1 S.dbg.2.2.2.1 _ _ _ _ (fun v H'=>v = .ref e∧H'=H1) (e6' ▸ I6) ⟨_,rfl,rfl,rfl⟩) (fun u7 s7 ⟨v7,H7,I7,r7,e7,e7'⟩=>?_) fun _ _ z=>z.elim) fun _ _ z=>z.elim) (hs2 _))
 subst e6 e7 e7'
 obtain rfl:u7 = .ref e:=r7
 obtain ⟨h7,g7,d7,t7,o7⟩:=s7
 have he7:h7.get? e=some (zdy C t5 none):=(I7.pin _ (List.mem_append_right _ (List.mem_singleton.mpr rfl))).1
 refine zsl I7.kIn (hT.keeps I7.bk) (I7.bk _ _ hC) he7 O.setA O.nof fun h8 tk8 dx hdx k8 he8 hns8=>?_
 have hlt:∀ b o,h7.get? b=some o→b ≠ dx:=fun b o h z=>absurd (z ▸ Heap.lt_size h) (Nat.not_lt.mpr hdx)
 have hltH:∀ b o,H7 b=some o→b ≠ dx:=fun b o h z=>absurd (z ▸ I7.hok.lt h) (Nat.not_lt.mpr hdx)
 have hok8:HOk X.prog X.w (upd H7 dx (.xd [(fld, .int i)])) h8:=fun b o hb=>by
  by_cases hbd:b=dx
  ·subst hbd
   rw [zaw] at hb
   cases hb
   refine ⟨_,hns8,fun f=>?_⟩
   by_cases hf:f=fld
   ·rw [if_pos hf,hf,List.lookup_cons_self];exact r6
   ·rw [if_neg hf,List.lookup_cons]
    have:(f == fld)=false:=by simpa using hf
    rw [this];exact True.intro
  ·rw [zap hbd] at hb
   refine (I7.hok b o hb).stay (fun c v hc q=>k8 c v ?_ q) (fun c hc=>by rw [zap (hltH c _ hc)];exact hc) fun c xs hc=>by rw [zap (hltH c _ hc)];exact hc
   rcases hc with z | z
   ·rintro rfl;rw [z,← z] at *;rw [hHe] at hb;cases hb
   ·rintro rfl;rw [hHe] at z;cases z
 have un8':Un (frs (envOfC qual (zab st) h2.objs.size fI cdv :: X.stack)) [e] H7 (upd H7 dx (.xd [(fld, .int i)])) h7 h8 :=
  ⟨fun b o h n _ hx=>k8 b o (fun z=>hx (by simp [z])) h,fun b o h n _ hx=>⟨o.slots,k8 b o (fun z=>hx (by simp [z])) h⟩,fun b o h n hx=>by rw [zap (hlt b o h)];exact n,
   fun b o h hx=>⟨o,k8 b o (fun z=>hx (by simp [z])) h⟩,fun b xs h=>by rw [zap (hltH b _ h)];exact h,fun b o u h=>by rw [zap (hltH b _ h)];exact h,fun b ps h=>⟨#[],by rw [zap (hltH b _ h),h];simp⟩⟩
 have I8:=I7.znP.call (t':=tk8) (d':=d7) un8' hok8 I7.bare fun b hb=>by
  obtain rfl:b=e:=by simpa using hb
  exact ⟨.inr he,heL,cells0,fun p hp=>absurd (show p ∈ ([] : List (Addr × Obj)) from hp) (by simp)⟩
 refine wpAny_execs_nil ?_
 exact ⟨rfl,dx,t5,Nat.le_trans I7.sz hdx,fun z=>absurd (z ▸ Heap.lt_size he7) (Nat.not_lt.mpr hdx),I8.os,I8.bare,I8.base,hok8,he8⟩
end
end L2
namespace L2
open PySem PySem.Spec PyProof.Rows
section
variable {M:Model} {A:Around} {E:Value→Shared→Prop} {env:Env}
variable {nm q:Str} {C N:Addr} {bs bm:List Value} {hdct:Bool} {sn:List Str} {sub:List Value} {ab:Bool} {col:Option Bool} {dd:Option Addr} {k0 k1 k2 k3 k5:Option Value} {newId:String}
theorem zeX {s:Shared} {x:Sem Value} {Q:Flow→Shared→Prop} (hbase:bm.contains (.type "BaseException")=true) (hh:A.handled=none)
  (h:wpAny M A x (fun v s₁=>∃ e t dx,v = .ref e∧s₁.heap.get? C=some (excClassObj nm q C N bs bm hdct sn sub ab col dd k0 k1 k2 k3 k5 newId) ∧
   s₁.heap.get? e=some (zdy C t dx)∧E (.ref e) s₁) E s) :
  wpAny M A (raiseStmt env (some x) none) Q E s:=by
 have hcB:(Value.ref C :: bm).contains (.type "BaseException")=true:=by rw [List.contains_cons,hbase,Bool.or_true]
 unfold raiseStmt
 refine wpAny_bind (wpAny_mono h (fun v s₁ h₁=>?_) fun _ _ x=>x)
 obtain ⟨e,t,dx,rfl,hC,he,hE⟩:=h₁
 obtain ⟨hp,g,d,tk,os⟩:=s₁
 repeat (first | with_reducible refine wpAny_loadPart_at he ?_ | with_reducible refine wpAny_loadPart_at hC ?_ | (with_reducible refine wpAny_isSubtype_exc hC ?_;rw [hcB]) | wp_step)
 exact wpAny_raiseNew_none hh hE
end
section
variable {prog:Program} {w:World} {A:Around} {E:Value→Shared→Prop} {s:Shared} {env:Env}
variable {nm q:Str} {C N:Addr} {bs bm bmB:List Value} {hdct:Bool} {sn:List Str} {sub:List Value} {ab:Bool} {col:Option Bool} {dd:Option Addr} {k0 k1 k2 k3 k5:Option Value} {B newId initId:String}
theorem zo4 (F:ExcBaseFacts B newId initId bmB) {mN:Str→Option Value} {x:Str} {np cpos pos:Pos} {args:List Expr} {Q:Flow→Shared→Prop} {fI:Addr} {oI:Obj}
  (hbase:bm.contains (.type "BaseException")=true) (hh:A.handled=none) (hplain:(backTo cpos (starEach args env)).any (·.1)=false) (hi:mN "__init__" = some (.ref fI)) (hfc:oI.cls = .type "function")
  (h:wpAny (model prog w) A (eval (.Name x np) env) (fun f s₁=>f = .ref C∧wpAny (model prog w) A (evalArgs (.ref C) true (backTo cpos (starEach args env)) [])
   (fun a s₂=>a.kw=[]∧a.pos.length ≤ sizeLine∧s₂.heap.get? C=some (excClassObj nm q C N bs bm hdct sn sub ab col dd k0 k1 k2 k3 k5 newId)∧s₂.heap.Ns N mN∧OwnTail s₂.heap bmB bm∧s₂.heap.get? fI=some oI ∧
    ∀ h' e,Heap.MadeExcOf s₂.heap h' e (.ref C) a.pos→s₂.heap.objs.size ≤ e→wpAny (model prog w) (A.under (.builtin "type.__call__" ⟨.ref C :: a.pos,[]⟩)) (call (.ref fI) (.ref e :: a.pos))
     (fun r s'=>r = .none∧s'.heap.get? C=some (excClassObj nm q C N bs bm hdct sn sub ab col dd k0 k1 k2 k3 k5 newId)∧(∃ t dx,s'.heap.get? e=some (zdy C t dx))∧E (.ref e) s') E { s₂ with heap:=h' }) E s₁) E s) :
  wpAny (model prog w) A (exec (.Raise (some (.Call (.Name x np) args [] cpos)) none pos) env) Q E s:=by
 rw [arm_exec_Raise]
 first
  | refine wpAny_bind (wpAny_standAt (zeX (C:=C) (nm:=nm) (q:=q) (N:=N) (bs:=bs) (bm:=bm) (hdct:=hdct) (sn:=sn) (sub:=sub) (ab:=ab) (col:=col) (dd:=dd) (k0:=k0) (k1:=k1) (k2:=k2) (k3:=k3) (k5:=k5) (newId:=newId) hbase hh (wpAny_bind (wpAny_mono (wpAny_Call_ofName (wpAny_mono h (fun f s₁ h₁=>?_) fun _ _ x=>x)) (fun v s₃ h₃=>wpAny_bind (wpAny_standAt (wpAny_pure h₃))) fun _ _ x=>x))))
  | (simp only [evalOpt,Option.map];refine wpAny_bind (wpAny_standAt (zeX (C:=C) (nm:=nm) (q:=q) (N:=N) (bs:=bs) (bm:=bm) (hdct:=hdct) (sn:=sn) (sub:=sub) (ab:=ab) (col:=col) (dd:=dd) (k0:=k0) (k1:=k1) (k2:=k2) (k3:=k3) (k5:=k5) (newId:=newId) hbase hh (wpAny_bind (wpAny_mono (wpAny_Call_ofName (wpAny_mono h (fun f s₁ h₁=>?_) fun _ _ x=>x)) (fun v s₃ h₃=>wpAny_bind (wpAny_standAt (wpAny_pure h₃))) fun _ _ x=>x)))))
  | (refine wpAny_bind (wpAny_standAt (zeX (C:=C) (nm:=nm) (q:=q) (N:=N) (bs:=bs) (bm:=bm) (hdct:=hdct) (sn:=sn) (sub:=sub) (ab:=ab) (col:=col) (dd:=dd) (k0:=k0) (k1:=k1) (k2:=k2) (k3:=k3) (k5:=k5) (newId:=newId) hbase hh ?_));refine wpAny_bind (wpAny_mono (wpAny_Call_ofName (wpAny_mono h (fun f s₁ h₁=>?_) fun _ _ x=>x)) (fun v s₃ h₃=>wpAny_bind (wpAny_standAt (wpAny_pure h₃))) fun _ _ x=>x))
 obtain ⟨rfl,h₁⟩:=h₁
 unfold callWith
 refine wpAny_bind (wpAny_holding (wpAny_mono h₁ (fun a s₂ h₂=>wpAny_bind (wpAny_standAt ?_)) fun _ _ x=>x))
 obtain ⟨apos,akw⟩:=a
 obtain ⟨hkw,hlen,hC,hn,T,hfI,h₂⟩:=h₂
 obtain rfl:akw=[]:=hkw
 obtain ⟨hp,g,d,tk,os⟩:=s₂
 simp only [hplain]
 refine wpAny_bind (wpAny_keeperOf_exc hC ?_)
 refine wpAny_bind (zqh (hrest:=hlen) F T hC hn hi hfI hfc fun h' e hm hz=>wpAny_mono (h₂ h' e hm hz) (fun r s' hr=>⟨hr.1,wpAny_bind (wpAny_holding (wpAny_point (wpAny_pure ?_)))⟩) fun _ _ x=>x)
 obtain ⟨_,a1,⟨t,dx,a2⟩,a3⟩:=hr
 exact ⟨e,t,dx,rfl,a1,a2,a3⟩
end
section
variable {X:Cx} {W:WX} {x:Str} {pos np cpos:Pos} {e:Expr} {t:TA}
def zqs (W:WX) (C:Addr) (fld:Str) (t:TA):TS:=fun _ σ H=>t σ H fun vs H1=>∃ i,vs=[.int i]∧i.natAbs.log2 < 1920∧∀ dx,H1 dx=none→W σ (.ref C) (some dx) (upd H1 dx (.xd [(fld, .int i)]))
theorem zmu {C fI R:Addr} {fld qual rk sf pa:Str} {st:Stmt} {fd:FuncData} {k:Nat} (T:zgm X W) (hc:X.calm=true) (O:OwnI X.K C fI fld) (B:zrl X.K R) (F:Fun X.K "__init__" qual st fI fd) (S:zlV st fld rk sf pa) (hb:Binds X.K fd [sf,pa] [])
  (hmR:X.mg rk=some (.ref R)) (hr:Room (k + 2) X.A) (hg:Gl X x) (hm:X.mg x=some (.ref C)) (ha:PA X [e] t)
  (hdb:(x == ("__debug__" : Str))=false:=by decide) (he:starEach [e] X.env=(false,eval e X.env) :: starEach [] X.env:=by rfl) (hpl:(backTo cpos (starEach [e] X.env)).any (·.1)=false:=by rfl) :
  PS X (.Raise (some (.Call (.Name x np) [e] [] cpos)) none pos) (zqs W C fld t):=by
 intro pins s σ H D I h
 obtain ⟨bm,N,nm,q,bs,sn,sub,ab,col,dd,k0,k1,k2,k3,k5,mN,oI,hC,hN,hni,hT,hfI,hfc⟩:=O.obj I.ok.mod.kin
 have hbase:bm.contains (.type "BaseException")=true:=hT.hasType (by decide)
 refine zo4 (hdct:=true) (nm:=nm) (q:=q) (N:=N) (bs:=bs) (sn:=sn) (sub:=sub) (ab:=ab) (col:=col) (dd:=dd) (k0:=k0) (k1:=k1) (k2:=k2) (k3:=k3) (k5:=k5) PySem.F.excBase_ValueError hbase (I.ok.hd hc) hpl hni hfc (zfu I hg hm ⟨rfl,?_⟩ hdb)
 rw [he]
 refine Calls.evalArgs_plain ?_
 have ha':=ha cpos pins s σ H _ I h
 rw [he] at ha'
 refine thn ha' fun us s1 ⟨vs,H1,I1,r,i,ev,hl,q1⟩=>?_
 subst ev
 obtain ⟨u,rfl,tu,rfl⟩:=vals1 r
 refine ⟨rfl,by show 1 ≤ sizeLine;rw [sizeLine_eq];omega,I1.bk _ _ hC,hN.keeps I1.bk,hT.keeps I1.bk,I1.bk _ _ hfI,fun h' a M hz=>?_⟩
 refine wpAny_mono (zqL O B F S hb hmR hr hl I1 M hz) (fun r s' hp=>⟨hp.1,?_⟩) fun _ _ z=>z
 obtain ⟨_,dx,t1,hdx,hne,hos,hbare,hun,hok,hex⟩:=hp
 have I2:Inv X [] σ _ s':=(I1.zoR hos hun hok hbare (fun b z=>absurd z (by simp))).znP
 have hHa:upd H1 dx (.xd [(fld, .int i)]) a=none:=by rw [zap (Ne.symm hne)];exact I1.hok.fresh hz
 refine ⟨I2.bk _ _ hC,⟨t1,some dx,hex⟩,T.to _ _ ⟨σ,_,a, .ref C,some dx,rfl,I2,⟨I1.first T.ex M.new,hHa,_,_,hex,rfl,rfl,rfl,by simp, .inl ⟨rfl,rfl⟩⟩,q1 dx (I1.hok.fresh hdx)⟩⟩
end
end L2
namespace L2
open PySem PySem.Spec PyProof.Rows Builtin Builtin.ObjectAttr
structure XAt (K:PySem.W.Frag) (D:Addr) (fld:Str):Prop where
 ga:PySem.W.findIn K (.ref D) "__getattribute__" = some (some (.builtin "BaseException.__getattribute__"))
 gx:PySem.W.findIn K (.ref D) "__getattr__" = some none
 no:PySem.W.findIn K (.ref D) fld=some none
 be:PySem.W.subIn K (.ref D) (.type "BaseException")=some true
 hd:(PySem.W.clsIn K D).any (·.hasDict)=true
theorem zly:Slot "BaseException" "__getattribute__" "BaseException.__getattribute__" := .of (owner := "BaseException") (n := "__getattribute__") (by rw [typeLookup_type,builtinLookup_eq_fast];kernel_rfl) (by decide +kernel) (by decide +kernel) (by decide +kernel)
  (by first | exact .inl (by decide +kernel) | exact .inr (by decide +kernel)) (by rw [isSubtype_type];kernel_rfl)
section
variable {prog:Program} {w:World} {A:Around} {E:Value→Shared→Prop} {h:Heap} {g:Array GenState} {d:Drawn} {t:Nat} {os:OsState} {K:PySem.W.Frag} {a D dx:Addr} {o:Obj} {fld:Str} {mA:Str→Option Value} {v:Value} {vs:Array Value}
theorem zmK {tk:Tok} {Q:Fin→Shared→Prop} (X:K.In h) (C:XAt K D fld) (hx:h.get? a=some o) (hc:o.cls = .ref D) (hf:o.data = .fields vs) (hd:o.dict=some dx) (hn:h.Ns1 dx mA) (hv:mA fld=some v) (hq:Q (.done (.ret v)) ⟨h,g,d,t,os⟩) :
  wpAny (model prog w) A (Builtin.«object.__getattribute__» ⟨[.ref a, .str fld tk],[]⟩) Q E ⟨h,g,d,t,os⟩:=by
 have L1:∀ {A':Around} {E':Value→Shared→Prop} {tk':Nat} {Q':Option Value→Shared→Prop},Q' none ⟨h,g,d,tk',os⟩→wpAny (model prog w) A' (typeLookup (.ref D) fld) Q' E' ⟨h,g,d,tk',os⟩:=fun q=>(PySem.W.looks_findIn X C.no).at q
 repeat (any_goals (first | assumption | (with_reducible refine wpAny_loadPart_at hx ?_;rw [hc]) | with_reducible refine L1 ?_ | wp_step))
 rw [hf]
 obtain ⟨cd,hcl,hdd⟩:=PySem.W.any_some C.hd
 have L2':∀ {A':Around} {E':Value→Shared→Prop} {tk':Nat} {Q':ClassData→Shared→Prop},Q' cd ⟨h,g,d,tk',os⟩→wpAny (model prog w) A' (classData D) Q' E' ⟨h,g,d,tk',os⟩:=fun q=>(PySem.W.looks_clsIn X hcl).at q
 show wpAny _ _ (instanceDict a false) _ _ _
 unfold instanceDict
 refine wpAny_bind (wpAny_loadPart_at hx ?_)
 rw [hc]
 refine wpAny_bind (L2' ?_)
 rw [hdd,if_neg (by decide)]
 dsimp only
 rw [hd]
 refine wpAny_pure ?_
 unfold inDict
 repeat (first | (with_reducible refine wpAny_nsGet hn.ns ?_;rw [hv]) | wp_step)
 exact hq
theorem zs7 {Q:Value→Shared→Prop} (X:K.In h) (C:XAt K D fld) (hx:h.get? a=some o) (hc:o.cls = .ref D) (hf:o.data = .fields vs) (hd:o.dict=some dx) (hn:h.Ns1 dx mA) (hv:mA fld=some v) (hh:handedOut v=pure v) (hq:Q v ⟨h,g,d,t + 1,os⟩) {expr:Bool} :
  wpAny (model prog w) A (getAttr (.ref a) fld expr) Q E ⟨h,g,d,t,os⟩:=by
 have f3:=zly.bind (.ref a)
 have hx0:(expr && onTheHeap (Value.builtin "BaseException.__getattribute__"))=false:=by cases expr <;> rfl
 have hx2:(Value.builtin "BaseException.__getattribute__" == Value.builtin "object.__getattribute__")=false:=by decide +kernel
 have hx1:(onTheHeap (Value.ref D) && Value.builtin "BaseException.__getattribute__" == Value.builtin "object.__getattribute__")=false:=by rw [hx2];rfl
 have hk:builtinKind "BaseException.__getattribute__" = some .slot:=by decide +kernel
 have hsplit:splitId "BaseException.__getattribute__" = some ("BaseException", "__getattribute__"):=by decide +kernel
 have L1:∀ {A':Around} {E':Value→Shared→Prop} {tk':Nat} {Q':Option Value→Shared→Prop},Q' (some (.builtin "BaseException.__getattribute__")) ⟨h,g,d,tk',os⟩→wpAny (model prog w) A' (typeLookup (.ref D) "__getattribute__") Q' E' ⟨h,g,d,tk',os⟩:=fun q=>(PySem.W.looks_findIn X C.ga).at q
 have L2':∀ {A':Around} {E':Value→Shared→Prop} {tk':Nat} {Q':Option Value→Shared→Prop},Q' none ⟨h,g,d,tk',os⟩→wpAny (model prog w) A' (typeLookup (.ref D) "__getattr__") Q' E' ⟨h,g,d,tk',os⟩:=fun q=>(PySem.W.looks_findIn X C.gx).at q
 have hI:PySem.W.Looks (model prog w) h (isInstance (.ref a) (.type "BaseException")) true:=by
  refine PySem.W.Looks.andThen (a := .ref D) ?_ (PySem.W.looks_subIn X C.be)
  have:=PySem.W.Looks.ld (M:=model prog w) (part:=some headPart) hx
  exact this.andThen (by rw [hc];exact .now)
 have call:∀ {tk':Nat} {A':Around} {R:Result→Shared→Prop} {tk:Tok},R (.ok (.ret v)) ⟨h,g,d,tk',os⟩→codeAny (model prog w) A' (.call (.builtin "BaseException.__getattribute__") ⟨[.ref a, .str fld tk],[]⟩) R ⟨h,g,d,tk',os⟩:=fun {tk' A' R tk} q =>
  codeAny_call_builtin zly.plain PySem.F.entry_bexc_ga (@PySem.W.check_slot (model prog w) _ _ ⟨h,g,d,tk',os⟩ "BaseException.__getattribute__" "BaseException" "__getattribute__" (.ref a) [.str fld tk] [] _ hk hsplit hI (PySem.F.args_bexc_ga (.ref a) (.str fld tk)) (zmK X C hx hc hf hd hn hv q))
 unfold getAttr getAttrBy
 repeat (any_goals (first | assumption | (with_reducible refine wpAny_loadPart_at hx ?_;rw [hc]) | with_reducible refine L1 ?_ | with_reducible refine L2' ?_ | wp_step))
 refine call ?_
 show wpAny _ _ (handedOut v) _ _ _
 rw [hh]
 exact wpAny_pure hq
end
section
variable {X:Cx} {x D dx:Addr} {oe:Obj} {fld:Str} {i:Nat} {n:Str} {np pos:Pos}
def tXat (x dx:Addr) (te:TE) (fld:Str):TE:=fun σ H Q=>te σ H fun v H1=>v = .ref x∧∃ ws v,H1 dx=some (.xd ws)∧ws.lookup fld=some v∧Q v H1
theorem zsq {o:Expr} {te:TE} (he:PE X o te) (hp:(x,oe) ∈ X.pn) (hc:oe.cls = .ref D) (hf:∃ vs,oe.data = .fields vs) (hd:oe.dict=some dx) (C:XAt X.K D fld)
  (hb:attributeBase o fld X.env (eval o X.env)=eval o X.env:=by rfl):PE X (.Attribute o fld pos) (tXat x dx te fld):=by
 intro pins s σ H Q I h
 refine zm1 hb (thn (he pins s σ H _ I h) fun u s1 ⟨v0,H1,I1,rx,e0,ws,v,hd1,hl,q⟩=>?_)
 subst e0
 obtain rfl:u=Value.ref x:=rx
 obtain ⟨vs,hf⟩:=hf
 obtain ⟨mA,hn,r⟩:=I1.hok dx _ hd1
 obtain ⟨u,hu,ru⟩:=RelO.some_of (v:=v) (o:=mA fld) (by rw [← hl];exact r fld)
 have hx:=(I1.pin _ (List.mem_append_left _ hp)).1
 obtain ⟨h1,g1,d1,t1,o1⟩:=s1
 exact zs7 I1.kIn C hx hc hf hd hn hu (PySem.W.handedOut_of (znn ru)) ⟨v,H1,I1.tok _,ru,q⟩
end
section
variable {X:Cx} {C:Addr} {i:Nat} {n y:Str} {np pos:Pos} {b₀:Stmt} {suite:List Stmt} {rest:List ExceptHandler} {ts th:TH}
theorem zrP (t:Top1 X) (c:XC X.K C) (hg:Gl X y) (hm:X.mg y=some (.ref C)) (hN:X.N.Nodup) (hi:X.N[i]? = some n) (hl:X.env.scope.names.lookup n=some .local) (hs:∀ x oe,(∃ vs,oe.data = .fields vs)→PSs (X.zdf x oe) (b₀ :: suite) (ts x oe.cls oe.dict)) (hr:PH X rest th)
  (hdb:(y == ("__debug__" : Str))=false:=by decide):PH X (.ExceptHandler (some (.Name y np)) (some n) (b₀ :: suite) pos :: rest) (tH X.K C i ts th):=by
 intro s σ H D x cls dx I ex h
 obtain ⟨E,b,rfl,sb,h⟩:=h
 obtain ⟨oe,vs,hc,hdx,hd,he,hp⟩:=ex.pin I t
 have Ic:=I.zdf (x:=x) (oe:=oe) ⟨he,hp⟩
 refine wpAny_handleBy_cons (codeAny_handlers_test (zfu (X:=X.zdf x oe) (s:=s) Ic hg hm ?_ hdb)) (by intro q;cases q)
 obtain ⟨hh,g,d,tk,os⟩:=s
 refine zs1 c I.kIn he hc sb ?_
 cases b with
 | false =>
  exact hr _ σ H D x _ dx I ex (by simpa using h)
 | true =>
  rw [if_pos rfl] at h
  refine codeAny_handlers_suite_as (zfV I t ex fun h1 I1 ex1=>?_)
  obtain ⟨oe1,vs1,hc1,hdx1,hd1,he1,hp1⟩:=ex1.pin I1 t
  have Ic1:=I1.zdf (x:=x) (oe:=oe1) ⟨he1,hp1⟩
  refine zg2 (X:=X.zdf x oe1) (v := .ref x) Ic1 hN hi (.inl hl) rfl (fun s2 I2=>?_) (.inr hl)
  rw [← hc1,← hdx1] at h
  refine wpAny_mono (hs x oe1 ⟨vs1,hd1⟩ [] s2 (σ.set i (some (.ref x))) H (D.drop i) I2 h) (fun f s3 q=>?_) fun _ _ z=>False.elim z
  cases f with
  | next =>
   obtain ⟨σ',H',I',q⟩:=q
   exact ziS (I'.uncaught I.ok) hN hi hl fun s' I''=>⟨_,H',I'',q⟩
  | brk =>
   obtain ⟨σ',H',I',q⟩:=q
   exact ziS (I'.uncaught I.ok) hN hi hl fun s' I''=>⟨_,H',I'',q⟩
  | cont =>
   obtain ⟨σ',H',I',q⟩:=q
   exact ziS (I'.uncaught I.ok) hN hi hl fun s' I''=>⟨_,H',I'',q⟩
  | ret u =>
   obtain ⟨v,σ',H',I',r,q⟩:=q
   exact ziS (I'.uncaught I.ok) hN hi hl fun s' I''=>⟨v,_,H',I'',r,q⟩
end
end L2
namespace V2
open PySem PySem.Spec PyProof.Rows L2
def OwnF (K:PySem.W.Frag) (mg:Str→Option Value) (x fld:Str):Prop:=∃ C fI R qual st fd rk sf pa,OwnI K C fI fld∧zrl K R∧Fun K "__init__" qual st fI fd∧zlV st fld rk sf pa∧Binds K fd [sf,pa] []∧mg rk=some (.ref R)∧mg x=some (.ref C)∧PySem.W.nsIn K mainGlobals x=some (some (.ref C))
section
variable {K:PySem.W.Frag} {G H:Hp} {ι:List Addr} {Ω:Sto} {d:Addr}
theorem Wd.neG (w:Wd K G ι Ω H) (hd:H d=none) {a:Addr} {o:HO} (h:G a=some o):a ≠ d:=fun z=>by
 have:=w.sub _ _ h
 rw [z,hd] at this;cases this
theorem Wd.zq1 (w:Wd K G ι Ω H) (hd:H d=none) (o:HO):Ext G ι (upd G d o) ι:=⟨fun a u h=>by rw [zap (w.neG hd h)];exact h,fun _ _ h=>h⟩
theorem Wd.up (w:Wd K G ι Ω H) (hd:H d=none) (o:HO):Wd K (upd G d o) ι Ω (upd H d o) where
 sub:=fun a u h=>by
  by_cases hz:a=d
  ·subst hz;rw [zaw] at h ⊢;exact h
  ·rw [zap hz] at h ⊢;exact w.sub _ _ h
 inj:=w.inj
 len:=w.len
 live:=fun a ha=>by
  obtain ⟨u,hu⟩:=w.live a ha
  exact ⟨u,by rw [zap (fun z=>by rw [z,hd] at hu;cases hu)];exact hu⟩
 cel:=fun k c a h1 h2=>by
  obtain ⟨u,hu⟩:=w.live a (List.mem_of_getElem? h2)
  have hne:a ≠ d:=fun z=>by rw [z,hd] at hu;cases hu
  exact (w.cel k c a h1 h2).mono (w.zq1 hd o) (zap hne) (zap hne)
end
section
variable {X:Cx} {W:WX} {x fld:Str} {e:Expr} {np cpos pos:Pos} {fs:Ev→Mo (List A)}
@[simp] def zft (x fld:Str) (f:Ev→Mo (List A)):MS:=fun ρ=>sM (f ρ) ρ fun as Ω=>match as with
 | [.int i]=>if i.natAbs.log2 < 1920 then some (.exc ⟨x,[(fld, .int i)]⟩,ρ,Ω) else none
 | _=>none
theorem zeY {k:Nat} (T:zgm X W) (hc:X.calm=true) (O:OwnF X.K X.mg x fld) (hr:Room (k + 2) X.A) (hg:Gl X x) (ha:VA X W [e] fs)
  (hdb:(x == ("__debug__" : Str))=false:=by decide) (he:starEach [e] X.env=(false,eval e X.env) :: starEach [] X.env:=by rfl) (hpl:(backTo cpos (starEach [e] X.env)).any (·.1)=false:=by rfl) :
  VS X W (.Raise (some (.Call (.Name x np) [e] [] cpos)) none pos) (zft x fld fs):=by
 obtain ⟨C,fI,R,qual,st,fd,rk,sf,pa,O,B,F,S,hb,hmR,hm,hK⟩:=O
 obtain ⟨t,p,s⟩:=ha
 refine ⟨_,zmu T hc O B F S hb hmR hr hg hm p hdb he hpl,fun G ι Ω H σ ρ D w r h=>?_⟩
 refine s G ι Ω H σ ρ _ w r (zbx.sM h r fun as Ω1 vs H1 G1 ι1 x1 w1 d1 h1=>?_)
 split at h1
 ·rename_i i
  split at h1
  ·rename_i hl
   obtain ⟨v,r',rfl,dv,dr⟩:=d1.zcM
   rw [zca] at dr;subst dr
   simp only [Den] at dv;subst dv
   exact ⟨i,rfl,hl,fun dx hdx=>h1 σ _ _ ι1 (w1.zq1 hdx _) (w1.up hdx _) (r.ext (x1.trans (w1.zq1 hdx _))) _ _ ⟨⟨C,hK,rfl⟩, .inr ⟨dx,fld,i,rfl,rfl,zaw⟩⟩⟩
  ·exact False.elim h1
 ·exact False.elim h1
end
def exA (p d:Addr) (e:Exc):A:=match e.fs with
 | [(f, .int i)] => .exn p d f i
 | _ => .adr p
def zos (e:Exc) (d:Addr) (dx:Option Addr):Prop:=(e.fs=[]∧dx=none)∨(e.fs ≠ []∧dx=some d)
structure Cau (K:PySem.W.Frag) (oe:Obj) (d:Addr) (e:Exc):Prop where
 dat:∃ vs,oe.data = .fields vs
 cls:∃ E,PySem.W.nsIn K mainGlobals e.cls=some (some (.ref E))∧oe.cls = .ref E
 dic:zos e d oe.dict
def XFld (K:PySem.W.Frag) (rs:List Str) (fld:Str):Prop:=∀ n ∈ rs,∀ D,PySem.W.nsIn K mainGlobals n=some (some (.ref D))→XAt K D fld
@[simp] def gXAt (p d:Addr) (e:Exc) (rs:List Str) (fld:Str) (f:Ev→Mo A):Ev→Mo A:=fun ρ=>mb (f ρ) fun a=>match a with
 | .exn q d' g i=>if q=p∧d'=d∧e.fs ≠ []∧g=fld∧e.cls ∈ rs then ret (.int i) else stuck
 | _=>stuck
theorem zpH {X:Cx} {W:WX} {o:Expr} {f:Ev→Mo A} {p d:Addr} {oe:Obj} {e:Exc} {rs:List Str} {fld:Str} {pos:Pos} (ho:VE X W o f) (hp:(p,oe) ∈ X.pn) (c:Cau X.K oe d e) (hF:XFld X.K rs fld)
  (hb:attributeBase o fld X.env (eval o X.env)=eval o X.env:=by rfl):VE X W (.Attribute o fld pos) (gXAt p d e rs fld f):=by
 obtain ⟨t,h1,h2⟩:=ho
 obtain ⟨E,hE,hcE⟩:=c.cls
 by_cases hok:e.fs ≠ []∧e.cls ∈ rs
 ·have hd:oe.dict=some d:=by
   rcases c.dic with ⟨z,_⟩ | ⟨_,z⟩
   ·exact absurd z hok.1
   ·exact z
  refine ⟨_,zsq h1 hp hcE c.dat hd (hF _ hok.2 _ hE) hb,fun G ι Ω H σ ρ Q w r h=>h2 G ι Ω H σ ρ _ w r (Post.mb h fun a Ω1 v H1 G1 ι1 x1 w1 d1 hq=>?_)⟩
  split at hq
  ·rename_i q d' g i
   split at hq
   ·rename_i hz
    obtain ⟨rfl,rfl,_,rfl,_⟩:=hz
    simp only [Den] at d1
    exact ⟨d1.1,_, .int i,w1.sub _ _ d1.2,by rw [List.lookup_cons_self],hq _ H1 G1 ι1 (Ext.refl _ _) w1 (by simp only [Den])⟩
   ·exact False.elim hq
  ·exact False.elim hq
 ·refine ⟨fun σ H Q=>t σ H fun _ _=>False,fun pins s σ H Q I h=>?_,fun G ι Ω H σ ρ Q w r h=>h2 G ι Ω H σ ρ _ w r (Post.mb h fun a Ω1 v H1 G1 ι1 x1 w1 d1 hq=>?_)⟩
  ·exact zm1 hb (thn (h1 pins s σ H _ I h) fun u s1 ⟨v0,H1,I1,rx,e0⟩=>e0.elim)
  ·split at hq
   ·split at hq
    ·rename_i hz
     exact hok ⟨hz.2.2.1,hz.2.2.2.2⟩
    ·exact hq
   ·exact hq
end V2
namespace M
open PySem V2
noncomputable def za4:MS :=
 (sSeq (sAsg (vOp gIx (vVar 3) (cI 1)) (gN 4))
   (sSeq (sAsg (vOp (gAdd false) (vVar 1) (vVar 4)) (gN 1))
   (sIf (vOrT (zay (vOp gLt (vVar 4) (cI 1))) (zay (vOp gGt (vVar 1) (cI 1000000000))))
    (zft "NoRow" "at" (zad (vVar 2) a0))
    sNx)))
noncomputable def zfi:MS :=
 (sSeq (sAsg (cI 0) (gN 1))
  (sSeq (sFor (zjp (vVar 0)) (zcR 2 (zat (gN 2) (zat (gN 3) zcU))) za4)
  (sRet (vVar 1))))
noncomputable def ze7:List A→Mo A:=fnF 5 zfi
end M
namespace V2
open PySem PySem.Spec PyProof.Rows L2
section
variable {X:Cx} {W:WX} {pos:Pos}
end
end V2
namespace V2
open PySem PySem.Spec PyProof.Rows L2
section
variable {X:Cx} {W:WX} {a b c d:Expr} {ta tb tc td:TE} {fa fb fc fd:Ev→Mo A} {pos:Pos}
def zn7 (_ j:Int):Prop:=0 < j∧j < 1152921504606846976
instance (i j:Int):Decidable (zn7 i j):=by unfold zn7;infer_instance
theorem zjq {x y:Int} (h:y.natAbs < 1152921504606846976):Builtin.divisionGoesByPylong x y=false:=by
 refine PyProof.noPylong_of_log2 ?_
 by_cases h0:y.natAbs=0
 ·rw [h0];decide +kernel
 ·have h60:y.natAbs.log2 < 60:=(Nat.log2_lt h0).mpr h
  omega
theorem zpf:OpR X (binaryOp .FloorDiv) (rI zn7 fun i j => .int (i / j)):=opI fun i j _ _ _ _ _ hc q=>by
 have h1:(0:Int) < j:=hc.1
 have h2:j < 1152921504606846976:=hc.2
 exact floordiv_int (by omega) (by rw [Int.fdiv_eq_ediv_of_nonneg i (by omega)];exact q) (.inl (zjq (by omega)))
@[simp] def zsg:=gI zn7 fun i j => .int (i / j)
theorem zsN:OpOk X W (binaryOp .FloorDiv) zsg:=⟨_,zpf,zot fun _ _ _ _=>by simp only [Den]⟩
end
end V2
namespace M
open PySem V2
noncomputable def zdU:MS :=
 (sSeq (zm5 (vTup (zad (vOp (gAdd false) (vVar 2) (cI 1)) (zad (vOp (gAdd false) (vVar 2) (vVar 4)) a0))) (vVar 1) (vVar 3))
   (sAsg (vOp (gAdd false) (vVar 2) (vVar 4)) (gN 2)))
noncomputable def zd8:MS :=
 (sSeq (sAsg zqN (gN 1))
  (sSeq (sAsg (cI 0) (gN 2))
  (sSeq (sFor (vSeq (vCl (zaz 1 zg1) (zad (vVar 0) a0))) (zcR 2 (zat (gN 3) (zat (gN 4) zcU))) zdU)
  (sRet (vVar 1)))))
noncomputable def zee:List A→Mo A:=fnF 5 zd8
end M
namespace PySem
section
variable {prog:Program} {w:World} {A:Around} {E:Value→Shared→Prop} {s:Shared}
end
set_option maxRecDepth 100000
section
variable {prog:Program} {w:World} {A:Around} {E:Value→Shared→Prop} {s:Shared}
end
end PySem
namespace V2
open PySem PySem.Spec PyProof.Rows L2
section
variable {X:Cx} {W:WX}
end
section
variable {K:PySem.W.Frag}
end
section
variable {X:Cx} {W:WX}
end
end V2
namespace V2
open PySem PySem.Spec PyProof.Rows L2
section
variable {X:Cx} {W:WX}
end
end V2
namespace V2
open PySem PySem.Spec PyProof.Rows L2
section
variable {X:Cx} {W:WX} {pos:Pos}
end
end V2
namespace M
open PySem V2
noncomputable def zbN:MS :=
 (sSeq (sAsg (vCl zj9 (zad (vVar 1) (zad (vOp (gSub) (vOp gIx (vVar 3) (cI 2)) (vOp gIx (vVar 3) (cI 1))) a0))) (gN 1))
   (sIf (zh6 (zay (vOp gGt (vVar 2) (cI 0))) (zay (vOp gNe (vOp gIx (vOp gIx (vVar 0) (vOp (gSub) (vVar 2) (cI 1))) (cI 0)) (vOp gIx (vVar 3) (cI 0)))))
    (sAsg (vCl zj9 (zad (vVar 1) (zad (vOp (gSub) (vOp (gSub) (vOp gIx (vVar 3) (cI 2)) (vOp gIx (vOp gIx (vVar 0) (vOp (gSub) (vVar 2) (cI 1))) (cI 1))) (cI 1)) a0))) (gN 1))
    sNx))
noncomputable def zdR:MS :=
 (sSeq (sAsg (cI 0) (gN 1))
  (sSeq (sFor (zjp (vVar 0)) (zcR 2 (zat (gN 2) (zat (gN 3) zcU))) zbN)
  (sRet (vVar 1))))
noncomputable def zde:List A→Mo A:=fnF 4 zdR
end M
namespace M
open PySem V2
noncomputable def za0:MS :=
 (sIf (zgR (zay (vCl (zaz 2 zbt) (zad (vVar 0) (zad (vVar 1) a0)))))
    (zft "NoPouch" "at" (zad (vVar 1) a0))
    sNx)
noncomputable def zdw:MS :=
 (sSeq (sIf (zgR (zay (vCl (zaz 1 zbj) (zad (vVar 0) a0))))
   (zft "NoPouch" "at" (zad (cI 0) a0))
   sNx)
  (sSeq (sFor (zhg (zad (vCl gLen (zad (vOp gIx (vVar 0) (cI 3)) a0)) a0)) (gN 1) za0)
  (sRet (cB true))))
noncomputable def zbP:List A→Mo A:=fnF 2 zdw
end M
namespace L2
open PySem PySem.Spec PyProof.Rows
def zto (p:Addr) (oe:Obj) (outer:List Env) (s:Shared) (H:Hp):Prop:=s.heap.get? p=some oe∧H p=none∧p ∉ frs outer∧∀ v,oe.data ≠ .cell v
def RunP (P:Program) (w:World) (K:PySem.W.Frag) (mg:Str→Option Value) (base:Heap) (k:Nat) (f:Addr) (fd:FuncData) (ps:List Str) (p:Addr) (oe:Obj) (sp:Sp):Prop :=
 ∀ (A:Around) (outer:List Env) (s:Shared) (H:Hp) (args:Args) (us:List Value) (vs:List V) (Q:VK) (E:XK),Room k A→Env0 P w K mg base A outer s H→BindsTo s fd args (ps.zip us)→Vals vs us→zto p oe outer s H→sp vs H Q E →
  codeAny (model P w) (A.mark (some (.ref p))) (.call (.ref f) args) (CR CX0 outer P w H s Q E) s
section
variable {P:Program} {w:World} {K:PySem.W.Frag} {mg:Str→Option Value} {base:Heap} {p:Addr} {oe:Obj}
set_option maxRecDepth 100000 in
theorem zs8 {k:Nat} {f:Addr} {name qual:Str} {params:Arguments} {body:List Stmt} {scope:Scope} {dV kV doc pm cdv ct oc:Value} {an od:Option Addr}
  {osl:Array (Option Value)} {N ps:List Str} {sp:Sp} (lk:K.lookup f=some ⟨oc,od, .func (PySem.W.fnOf name qual params body scope dV kV doc pm an cdv ct),osl⟩) (hcd:PySem.W.codeIn K cdv qual=true) (S:zaq N ps scope)
  (len:∀ vs H Q E,sp vs H Q E→vs.length=ps.length)
  (hbody:∀ (A:Around) (outer:List Env) (s:Shared) (H:Hp) (vs:List V) (Q:VK) (E:XK),Room k (A.deeper (envOfC qual scope s.heap.objs.size f cdv))→sp vs H Q E →
   ∃ t,PSs ((cxOf CX0 P w K mg base N qual scope f cdv A outer s H E).zdf p oe) body t∧t { nx:=fun _ H'=>Q .non H',rt:=Q } (start N vs) H) :
  RunP P w K mg base (k + 1) f (PySem.W.fnOf name qual params body scope dV kV doc pm an cdv ct) ps p oe sp:=by
 intro A outer s H args us vs Q E hr e0 hb r pin hsp
 have hl:=len _ _ _ _ hsp
 have KX:K.In s.heap:=e0.mod.kin.keeps fun b o e=>(e0.bs b o e).1
 have lim:s.heap.NoLimit:=e0.mod.nolimit.keeps fun b o e=>(e0.bs b o e).1
 have hkind:∀ y ∈ ps.zip us,scope.names.lookup y.1=some .local∨(scope.names.lookup y.1=some .cell∧((cellsFrom (s.heap.objs.size + 1) scope.names []).lookup y.1).isSome=true):=fun ⟨n,v⟩ hy=>by
  rcases S.par n (List.of_mem_zip hy).1 with q | q
  ·exact .inl q
  ·exact .inr ⟨q,PySem.W.cellsFrom_some _ _ _ (.inl q)⟩
 refine codeAny_call_function (A:=A.mark (some (.ref p))) hr.depth (KX _ _ lk) rfl S.co S.gen rfl (PySem.W.codeRec_of KX hcd) (hb _ _ _ _ ?_)
 refine wpAny_newFunctionEnv_cells S.kind hkind fun env he s1 x=>?_
 subst he
 refine ⟨lim.keeps x.toInCall.keep,codeAny_func ?_⟩
 obtain ⟨t,ht,hq⟩:=hbody A outer s H vs Q E (hr.deeper _) hsp
 have I0:Inv (cxOf CX0 P w K mg base N qual scope f cdv A outer s H E) [] (start N vs) H s1:=ze2 S hr.hd e0 hl r x
 obtain ⟨p1,p2,p3,p4⟩:=pin
 have hlt:p < s.heap.objs.size:=by
  rcases Nat.lt_or_ge p s.heap.objs.size with h | h
  ·exact h
  ·exfalso
   first | (rw [Heap.get?_none_of_ge h] at p1;cases p1) | (simp [Heap.get?,h] at p1) | (unfold Heap.get? at p1;simp [h] at p1)
 have I:Inv ((cxOf CX0 P w K mg base N qual scope f cdv A outer s H E).zdf p oe) [] (start N vs) H s1:=I0.zdf ⟨x.toInCall.keep _ _ p1,p2,fun z=>absurd hlt (by rw [z];exact Nat.lt_irrefl _),p3,p4⟩
 refine wpAny_mono (ht [] s1 (start N vs) H _ I hq) (fun fl s' hs=>?_) fun e s' hs=>hs.elim
 have fin:∀ {σ':St} {H':Hp} {v:V} {u:Value},Inv ((cxOf CX0 P w K mg base N qual scope f cdv A outer s H E).zdf p oe) [] σ' H' s'→RelV v u→Q v H'→CE outer P w H s Q u s' :=
  fun {σ' H' v u} J rv q=>⟨v,H',J.os,J.bare,J.base,J.hok,rv,q⟩
 cases fl with
 | ret u =>
  obtain ⟨v,σ',H',J,rv,q⟩:=hs
  exact fin J rv q
 | next =>
  obtain ⟨σ',H',J,q⟩:=hs
  exact fin (v:=V.non) (u:=Value.none) J rfl q
 | brk =>
  obtain ⟨_,_,_,q⟩:=hs
  exact False.elim q
 | cont =>
  obtain ⟨_,_,_,q⟩:=hs
  exact False.elim q
end
end L2
namespace V2
open PySem PySem.Spec PyProof.Rows L2
def DefP (P:Program) (w:World) (K:PySem.W.Frag) (mg:Str→Option Value) (base:Heap) (x:Str) (k:Nat) (ps:List Str) (p:Addr) (oe:Obj) (F:List A→Mo A):Prop :=
 ∃ f fd,RunP P w K mg base k f fd ps p oe (fun vs H Q _=>spV K ps.length F vs H Q fun _ _ _=>False)∧mg x=some (.ref f)∧PySem.W.keepIn K (.ref f)=true∧Binds K fd ps []
theorem DefP.of {P:Program} {w:World} {K:PySem.W.Frag} {mg:Str→Option Value} {base:Heap} {p:Addr} {oe:Obj} {x:Str} {st:Stmt} {N ps:List Str} {k:Nat} {b:MS} (h:HasFn K mg x st) (S:zaq N ps (zab st))
  (bind:∀ (kV doc pm:Value) (an:Option Addr) (cdv ct:Value) (us:List Value),us.length=ps.length→bindArgs (PySem.W.fnOf x x (zan st) (zaj st) (zab st) .none kV doc pm an cdv ct) ⟨us,[]⟩ = pure (ps.zip us))
  (hbody:∀ (f:Addr) (cdv:Value) (A:Around) (outer:List Env) (s:Shared) (H:Hp) (E:XK),Room k (A.deeper (envOfC x (zab st) s.heap.objs.size f cdv)) →
   VSs ((cxOf CX0 P w K mg base N x (zab st) f cdv A outer s H E).zdf p oe) noW (zaj st) b):DefP P w K mg base x (k + 1) ps p oe (fnF N.length b):=by
 obtain ⟨f,fd,hm,F⟩:=h.ex
 refine ⟨f,fd,?_,hm,F.kp,F.binds bind⟩
 obtain ⟨oc,od,kV,doc,pm,an,cdv,ct,osl,rfl,lk,hcd⟩:=F.ex
 refine zs8 lk hcd S (fun vs H Q E h=>h.1) fun A outer s H vs Q E hr hsp=>?_
 obtain ⟨t,p,q⟩:=hbody f cdv A outer s H E hr
 exact ⟨t,p,zhh (E:=fun _ _ _=>False) q hsp⟩
section
variable {X:Cx} {W:WX} {x:Str} {e:Expr} {es:List Expr} {np pos:Pos} {fs:Ev→Mo (List A)} {p:Addr} {oe:Obj}
end
end V2
namespace V2
open PySem PySem.Spec PyProof.Rows L2
abbrev HF:=Addr→Addr→Exc→MS
def hNil:Str→Option HF:=fun _=>none
def zka (rs ns:List Str) (y:Str) (fh:HF) (g:Str→Option HF):Str→Option HF:=fun z=>match xtab rs ns z y with
 | some true=>some fh
 | some false=>g z
 | none=>none
def VH (X:Cx) (i:Nat) (hs:List ExceptHandler) (g:Str→Option HF):Prop:=∃ th,PH X hs th∧∀ (e:Exc) (fh:HF),g e.cls=some fh→∀ (x:Addr) (cls:Value) (dx:Option Addr) (D:Ends) (σ:L2.St) (H:Hp),
 (∃ E,PySem.W.nsIn X.K mainGlobals e.cls=some (some (.ref E))∧cls = .ref E)→(∃ d,zos e d dx∧znO X.K noW (fh x d e) (D.drop i) (σ.set i (some (.ref x))) H)→th x cls dx D σ H
theorem zr9 {X:Cx} {i:Nat}:VH X i [] hNil:=⟨tNoH,zse,fun _ _ h=>by cases h⟩
theorem zn8 {X:Cx} {i:Nat} {n y:Str} {np hpos:Pos} {b₀:Stmt} {suite:List Stmt} {rest:List ExceptHandler} {rs ns:List Str} {fh:HF} {g:Str→Option HF} (t:Top1 X) (c:ClsN X.K X.mg y) (hg:Gl X y) (hT:XTab X.K rs ns) (hN:X.N.Nodup) (hi:X.N[i]? = some n) (hl:X.env.scope.names.lookup n=some .local)
  (hh:∀ (p:Addr) (oe:Obj) (d:Addr) (e:Exc),Cau X.K oe d e→VSs (X.zdf p oe) noW (b₀ :: suite) (fh p d e)) (hr:VH X i rest g)
  (hdb:(y == ("__debug__" : Str))=false:=by decide):VH X i (.ExceptHandler (some (.Name y np)) (some n) (b₀ :: suite) hpos :: rest) (zka rs ns y fh g):=by
 obtain ⟨C,h0,h1,h2⟩:=c
 obtain ⟨th,p1,p2⟩:=hr
 refine ⟨_,zrP t h0 hg h1 hN hi hl (ts:=fun x cls dx D σ H=>∃ (e:Exc) (d:Addr),(∃ E,PySem.W.nsIn X.K mainGlobals e.cls=some (some (.ref E))∧cls = .ref E)∧zos e d dx∧znO X.K noW (fh x d e) D σ H) (fun x oe hf=>?_) p1 hdb,?_⟩
 ·intro pins sh σ H D I ⟨e,d,he,hd,q⟩
  exact (hh x oe d e ⟨hf,he,hd⟩).can pins sh σ H D I q
 ·intro e fh' hq x cls dx D σ H hc hd
  have sub:∀ b E,xtab rs ns e.cls y=some b→PySem.W.nsIn X.K mainGlobals e.cls=some (some (.ref E))→PySem.W.subIn X.K (.ref E) (.ref C)=some b:=fun b E q hz=>by
   unfold xtab at q
   split at q
   ·rename_i hm
    rw [← q]
    exact hT.sub _ hm.1 _ hm.2 _ _ hz h2
   ·cases q
  obtain ⟨E,hE,rfl⟩:=hc
  unfold zka at hq
  split at hq
  ·rename_i hx
   cases hq
   obtain ⟨d,hd1,hd2⟩:=hd
   refine ⟨E,true,rfl,sub _ _ hx hE,?_⟩
   rw [if_pos rfl]
   exact ⟨e,d,⟨E,hE,rfl⟩,hd1,hd2⟩
  ·rename_i hx
   refine ⟨E,false,rfl,sub _ _ hx hE,?_⟩
   rw [if_neg (by simp)]
   exact p2 e fh' hq x _ dx D σ H ⟨E,hE,rfl⟩ hd
  ·cases hq
open Classical in
noncomputable def zkN (i:Nat) (g:Str→Option HF) (fb:MS):MS:=fun ρ Ω=>match fb ρ Ω with
 | some (.exc e,ρ1,Ω1)=>(match g e.cls with
  | some fh=>if hr:∃ r,∀ p d,zma i (fh p d e (ρ1.set i (some (exA p d e))) Ω1)=some r then some (Classical.choose hr) else none
  | none=>none)
 | r=>r
theorem zrk {i:Nat} {g:Str→Option HF} {fb:MS} {fh:HF} {ρ ρ1:Ev} {Ω Ω1:Sto} {e:Exc} {r:Out × Ev × Sto} (h:fb ρ Ω=some (.exc e,ρ1,Ω1)) (hs:g e.cls=some fh) (hr:∀ p d,zma i (fh p d e (ρ1.set i (some (exA p d e))) Ω1)=some r):zkN i g fb ρ Ω=some r:=by
 have hx:∃ r,∀ p d,zma i (fh p d e (ρ1.set i (some (exA p d e))) Ω1)=some r:=⟨r,hr⟩
 have e1:=Classical.choose_spec hx 0 0
 rw [hr 0 0] at e1
 simp only [zkN,h,hs]
 rw [dif_pos hx,← e1]
theorem zqg {i:Nat} {g:Str→Option HF} {fb:MS} {ρ ρ1:Ev} {Ω Ω1:Sto} (h:fb ρ Ω=some (.nx,ρ1,Ω1)):zkN i g fb ρ Ω=some (.nx,ρ1,Ω1):=by simp only [zkN,h]
theorem zrg {X:Cx} {W:WX} {i:Nat} {pos:Pos} {body:List Stmt} {h0:ExceptHandler} {hs:List ExceptHandler} {fb:MS} {g:Str→Option HF} (t:Top1 X) (hx:X.ex=[])
  (hb:∀ W,VSs0 (X.wish (XE X W)) W body fb) (hv:VH X i (h0 :: hs) g):VS0 X W (.Try body (h0 :: hs) [] [] pos) (zkN i g fb):=by
 obtain ⟨th,p1,p2⟩:=hv
 refine ⟨_,zsA t hx (tb:=fun W=>znO X.K W fb) (fun W=>(hb W).can) p1,?_⟩
 intro G ι Ω H σ ρ D w r h
 refine ⟨G,ι,Ω,ρ,w,r,?_⟩
 unfold zkN at h
 revert h
 generalize fb ρ Ω=q
 intro h
 match q,h with
 | none,h=>exact h
 | some (.nx,ρ1,Ω1),h=>exact h
 | some (.bk,ρ1,Ω1),h=>exact h
 | some (.ct,ρ1,Ω1),h=>exact h
 | some (.ret a,ρ1,Ω1),h=>exact h
 | some (.exc e,ρ1,Ω1),h =>
  simp only at h
  split at h
  ·rename_i fh hs
   split at h
   ·rename_i hr
    intro σ' H' G' ι' x' w' r' cls dx hx x hxn
    obtain ⟨⟨E,hE,rfl⟩,hfs⟩:=hx
    refine p2 e fh hs x _ dx D σ' H' ⟨E,hE,rfl⟩ ?_
    have hd:∃ d,zos e d dx∧Den X.K G' ι' (.ref x) (exA x d e):=by
     rcases hfs with ⟨h1,rfl⟩ | ⟨d,f,i',rfl,h1,h2⟩
     ·exact ⟨0, .inl ⟨h1,rfl⟩,by unfold exA;rw [h1];simp only [Den]⟩
     ·exact ⟨d, .inr ⟨by rw [h1];simp,rfl⟩,by unfold exA;rw [h1];simp only [Den];exact ⟨trivial,h2⟩⟩
    obtain ⟨d,hd1,hd2⟩:=hd
    refine ⟨d,hd1,G',ι',Ω1,ρ1.set i (some (exA x d e)),w',r'.set i hd2,?_⟩
    have hq:=Classical.choose_spec hr x d
    revert hq h
    generalize Classical.choose hr=rr
    generalize fh x d e (ρ1.set i (some (exA x d e))) Ω1=q2
    intro h hq
    match q2,hq with
    | some (.nx,ρ2,Ω2),hq=>cases hq;exact fun σ2 H2 G2 ι2 x2 w2 r2=>h (σ2.set i none) H2 G2 ι2 (x'.trans x2) w2 (r2.unset i none)
    | some (.bk,ρ2,Ω2),hq=>cases hq;exact fun σ2 H2 G2 ι2 x2 w2 r2=>h (σ2.set i none) H2 G2 ι2 (x'.trans x2) w2 (r2.unset i none)
    | some (.ct,ρ2,Ω2),hq=>cases hq;exact fun σ2 H2 G2 ι2 x2 w2 r2=>h (σ2.set i none) H2 G2 ι2 (x'.trans x2) w2 (r2.unset i none)
    | some (.ret a,ρ2,Ω2),hq=>cases hq;exact fun σ2 H2 G2 ι2 x2 w2 r2=>h (σ2.set i none) H2 G2 ι2 (x'.trans x2) w2 (r2.unset i none)
   ·exact False.elim h
  ·exact False.elim h
end V2
namespace M
open PySem V2
noncomputable def zfr:Ev→Mo A :=
 (vLC false 2 [1] (vSeq (vVar 0)) (zcR 2 (zat (gN 0) (zat (gN 1) zcU))) (zay (vOp gLe (vVar 0) (vVar 2))) (vVar 1))
noncomputable def zfC:MS :=
 (sRet (vCl gSum (zad zfr a0)))
noncomputable def zea:List A→Mo A:=fnF 2 zfC
noncomputable def zeu:Ev→Mo A :=
 (vLC false 2 [1] (vSeq (vVar 0)) (zcR 2 (zat (gN 0) (zat (gN 1) zcU))) (zay (vOp gLt (vVar 0) (vVar 2))) (vVar 1))
noncomputable def zeo:MS :=
 (sRet (vCl gSum (zad zeu a0)))
noncomputable def zdN:List A→Mo A:=fnF 2 zeo
noncomputable def zgz:MS :=
 (sSeq (sAsg (vOp gIx (vOp gIx (vVar 0) (cI 3)) (vVar 1)) (zcR 3 (zat (gN 2) (zat (gN 3) (zat (gN 4) zcU)))))
  (sSeq (sIf (vOrT (zh6 (zay (vOp gEq (vVar 1) (cI 0))) (zay (vOp gNe (vTup (zad (vVar 3) (zad (vVar 4) a0))) (vTup (zad (cI 1) (zad (cI 1) a0)))))) (zh6 (zay (vOp gEq (vVar 1) (vOp (gSub) (vCl gLen (zad (vOp gIx (vVar 0) (cI 3)) a0)) (cI 1)))) (zay (vOp gNe (vTup (zad (vVar 3) (zad (vVar 4) a0))) (vTup (zad (vOp gIx (vVar 0) (cI 0)) (zad (vOp gIx (vVar 0) (cI 0)) a0)))))))
   (sRet (cB false))
   sNx)
  (sRet (vAnd (vOp gLe (vVar 3) (vVar 4)) (vOp gLe (vOp (gSub) (vVar 4) (vVar 3)) (vOp gIx (vVar 0) (cI 1)))))))
noncomputable def zcu:List A→Mo A:=fnF 5 zgz
noncomputable def za3:MS :=
 (sSeq (sAsg (vOp gIx (vOp gIx (vVar 0) (cI 3)) (vVar 1)) (zcR 3 (zat (gN 2) (zat (gN 3) (zat (gN 4) zcU)))))
  (sSeq (sAsg (vOp gIx (vOp gIx (vVar 0) (cI 3)) (vOp (gSub) (vVar 1) (cI 1))) (zcR 3 (zat (gN 5) (zat (gN 6) (zat (gN 7) zcU)))))
  (sSeq (sIf (vOrT (zay (vOp gLt (vVar 2) (vVar 5))) (vOrT (zay (vOp gLe (vVar 3) (vVar 6))) (zay (vOp gLe (vVar 4) (vVar 7)))))
   (sRet (cB false))
   sNx)
  (sRet (vOr (vOp gEq (vVar 2) (vVar 5)) (vOp gLe (vOp (gSub) (vVar 4) (vVar 6)) (vOp (gAdd false) (vOp gIx (vVar 0) (cI 1)) (cI 1))))))))
noncomputable def zaJ:List A→Mo A:=fnF 8 za3
noncomputable def zaB:MS :=
 (sIf (vOrT (zgR (zay (vCl (zaz 2 zcu) (zad (vVar 0) (zad (vVar 5) a0))))) (zh6 (zay (vOp gGt (vVar 5) (cI 0))) (zgR (zay (vCl (zaz 2 zaJ) (zad (vVar 0) (zad (vVar 5) a0)))))))
    (sRet (vVar 5))
    sNx)
noncomputable def zc8:MS :=
 (sSeq (sAsg (vVar 0) (zcR 4 (zat (gN 1) (zat (gN 2) (zat (gN 3) (zat (gN 4) zcU))))))
  (sSeq (sIf (vOrT (zay (vOp gLt (vVar 1) (cI 0))) (vOrT (zay (vOp gLt (vVar 2) (cI 0))) (vOrT (zay (vOp gLt (vVar 3) (cI 0))) (zay (vOp gNe (vOp gEq (vVar 4) (vLst false a0)) (vOp gEq (vVar 1) (cI 0)))))))
   (sRet (cI 0))
   sNx)
  (sSeq (sFor (zhg (zad (vCl gLen (zad (vVar 4) a0)) a0)) (gN 5) zaB)
  (sRet cN))))
noncomputable def za9:List A→Mo A:=fnF 6 zc8
noncomputable def zaW:MS :=
 (sSeq (sIf (zay (vOp (gDIn true) (vOp gIx (vVar 4) (cI 0)) (vVar 0)))
    (zft "Wrong" "at" (zad (vVar 3) a0))
    sNx)
   (sSeq (sAsg (vOp zpb (vVar 0) (vOp gIx (vVar 4) (cI 0))) (gN 5))
   (sSeq (sAsg (vCl zqV (zad (vOp (gAdd false) (vVar 2) (cI 1)) (zad (vOp gIx (vVar 4) (cI 1)) (zad (vOp gIx (vVar 5) (cI 0)) a0)))) (gN 2))
   (sIf (vOrT (zay (vOp gGt (vVar 2) (vOp gIx (vVar 4) (cI 2)))) (zay (vOp gGt (vVar 2) (vOp gIx (vVar 5) (cI 1)))))
    (zft "Wrong" "at" (zad (vVar 3) a0))
    sNx))))
noncomputable def zcb:MS :=
 (sSeq (sAsg (cI 0) (gN 2))
  (sFor (zjp (vVar 1)) (zcR 2 (zat (gN 3) (zat (gN 4) zcU))) zaW))
noncomputable def zcd:List A→Mo A:=fnF 6 zcb
noncomputable def zgr:MS :=
 (sSeq (sAsg (vCl (zaz 1 ze7) (zad (vVar 0) a0)) (gN 2))
  (sSeq (sExp (vCl (zaz 1 zbP) (zad (vVar 1) a0)))
  (sSeq (sIf (zay (vOp gNe (vOp gIx (vVar 1) (cI 0)) (vVar 2)))
   (zlo "NoSize" (zad (cS "the size is not the row's length") a0))
   sNx)
  (sSeq (sExp (vCl (zaz 2 zcd) (zad (vCl (zaz 1 zee) (zad (vVar 0) a0)) (zad (vOp gIx (vVar 1) (cI 3)) a0))))
  (sRet (cB true))))))
noncomputable def zdu:List A→Mo A:=fnF 3 zgr
end M
namespace V2
open PySem PySem.Spec PyProof.Rows L2
theorem zpy (a:A) (ha:pur 7 a=true):∀ (ds:List A),ds.all (pur 7)=true→((ds.map (toPy 7)).any fun y=>PyData.eqv y (toPy 7 a))=ds.any fun d=>eqA 7 d a
 | [],_=>rfl
 | d :: ds,h=>by
  simp only [List.all_cons,Bool.and_eq_true] at h
  simp only [List.map_cons,List.any_cons]
  rw [ziu 7 d a h.1 ha,zpy a ha ds h.2]
def zrV (K:PySem.W.Frag) (neg:Bool):R2:=fun x y H Q=>∃ ι a ds,pur 7 a=true∧pur 8 (.lst ds)=true∧Den K H ι x a∧Den K H ι y (.lst ds)∧Q (.bl (if neg then !(ds.any fun d=>eqA 7 d a) else ds.any fun d=>eqA 7 d a)) H
theorem zom {X:Cx} (hu:X.A.units + 64 < cLine):OpR X (compareOp .NotIn) (zrV X.K true):=by
 intro pins s σ H x y v u Q I rx ry h
 obtain ⟨ι,a,ds,h1,h2,d1,d2,q⟩:=h
 obtain ⟨as,q1⟩:=zfd I 7 x v a h1 d1 rx
 obtain ⟨bs,q2⟩:=zfd I 8 y u (.lst ds) h2 d2 ry
 have e1:=zgc 7 a
 have hall:ds.all (pur 7)=true:=h2
 refine SeqAt.notIn_list_reads (xs:=ds.map (toPy 7)) q2 q1 (zls ds 7 (fun d _=>zfc 7 d) hall) (zfc 7 a h1) (by omega) ?_
 rw [zpy a h1 ds hall]
 exact ⟨.bl (!(ds.any fun d=>eqA 7 d a)),H,I,rfl,q⟩
def gMem (neg:Bool) (a b:A):Mo A:=fun Ω=>match res Ω 6 a,res Ω 6 b with
 | some x,some (.lst ds)=>if (pur 7 x && pur 8 (.lst ds))=true then some (.ok (.bl (if neg then !(ds.any fun d=>eqA 7 d x) else ds.any fun d=>eqA 7 d x)),Ω) else none
 | _,_=>none
theorem zoM {K:PySem.W.Frag} {W:WX} {neg:Bool}:OpV K W (zrV K neg) (gMem neg):=by
 intro G ι Ω H σ x y a b Q w d1 d2 h
 unfold gMem at h
 split at h
 ·rename_i a' ds e1 e2
  split at h
  ·rename_i hp
   simp only [Bool.and_eq_true] at hp
   exact ⟨ι,a',ds,hp.1,hp.2,zlj w 6 x a a' d1 e1,zlj w 6 y b _ d2 e2,h _ H G ι (Ext.refl _ _) w (by simp only [Den])⟩
  ·exact False.elim h
 ·exact False.elim h
theorem zpA {X:Cx} {W:WX} (hu:X.A.units + 64 < cLine):OpOk X W (compareOp .NotIn) (gMem true):=⟨_,zom hu,zoM⟩
end V2
namespace V2
open PySem PySem.Spec PyProof.Rows L2
@[simp] def gRep (c:Bool) (a b:A):Mo A:=fun Ω=>match zaH Ω a,b with
 | some xs, .int k=>if zk3 a=false∧-(2 ^ 63) ≤ k∧k < 2 ^ 63∧xs.length * k.toNat ≤ sizeLine then mkL c (List.replicate k.toNat xs).flatten Ω else none
 | _,_=>none
theorem zn3 {K:PySem.W.Frag} {G:Hp} {ι:List Addr} {us:List V} {xs:List A} (h:DenL K G ι us xs):∀ n,DenL K G ι (List.replicate n us).flatten (List.replicate n xs).flatten
 | 0=>by simp only [List.replicate_zero,List.flatten_nil];exact .nil
 | n + 1=>by simp only [List.replicate_succ,List.flatten_cons];exact h.append (zn3 h n)
theorem ztC {X:Cx} {W:WX} (c:Bool):OpOk X W (binaryOp .Mult) (gRep c):=by
 refine ⟨_,zs5,?_⟩
 intro G ι Ω H σ x y a b Q w d1 d2 h
 unfold gRep at h
 split at h
 ·rename_i xs k e1
  split at h
  ·rename_i hp
   obtain ⟨p1,p2,p3,p4⟩:=hp
   obtain ⟨p,us,rfl,h2,h3⟩:=zi5 w d1 e1 (zoe p1)
   simp only [Den] at d2
   exact ⟨p,k,us,rfl,d2,h2,p2,p3,by rw [h3.length];exact p4,fun r hr=>zhA w hr (zn3 h3 _) h⟩
  ·exact False.elim h
 ·exact False.elim h
end V2
namespace V2
open PySem PySem.Spec PyProof.Rows L2
def sFrz (i:Nat) (g:MS):MS:=fun ρ Ω=>match (ρ[i]?).join with
 | some (.cel k)=>match Ω[k]? with
  | some (.lst ds)=>g (ρ.set i (some (.lst ds))) (Ω.set k .dead)
  | _=>none
 | _=>none
theorem zqH {i k:Nat} {g:MS} {ρ:Ev} {Ω:Sto} {ds:List A} (h1:ρ[i]? = some (some (.cel k))) (h2:Ω[k]? = some (.lst ds)):sFrz i g ρ Ω=g (ρ.set i (some (.lst ds))) (Ω.set k .dead):=by
 unfold sFrz
 rw [h1]
 simp only [Option.join]
 simp [h2]
section
variable {X:Cx} {W:WX} {st:List Stmt} {g:MS}
theorem zqe (i:Nat) (h:VSs X W st g):VSs X W st (sFrz i g):=by
 obtain ⟨t,p,s⟩:=h
 refine ⟨t,p,fun G ι Ω H σ ρ D w r h=>?_⟩
 unfold sFrz at h
 cases e:(ρ[i]?).join with
 | none=>rw [e] at h;exact False.elim h
 | some d =>
  rw [e] at h
  cases d with
  | cel k =>
   simp only at h
   cases e2:Ω[k]? with
   | none=>rw [e2] at h;exact False.elim h
   | some c =>
    rw [e2] at h
    cases c with
    | lst ds =>
     obtain ⟨v,h1,h2⟩:=r.2 i _ (join_some e)
     simp only [Den] at h2
     obtain ⟨p,rfl,h4⟩:=h2
     obtain ⟨g,xs,h5,h6⟩:=w.cel k _ p e2 h4
     have x1:Ext G ι (upd G p (.lst xs)) ι:=Ext.new g _
     have r1:=(r.ext x1).set i (v := .ref p) (d := .lst ds) (by simp only [Den];exact ⟨p,xs,rfl,zaw,h6.ext x1⟩)
     have e3:σ.set i (some (.ref p))=σ:=by
      apply List.ext_getElem?
      intro j
      by_cases hj:i=j
      ·subst hj
       rw [List.getElem?_set_self (List.getElem?_eq_some_iff.mp h1).1,h1]
      ·rw [List.getElem?_set_ne hj]
     rw [e3] at r1
     exact s _ ι _ H σ _ D (w.freeze h4 g h5) r1 (zbx.ext h x1)
    | _=>exact False.elim h
  | _=>exact False.elim h
end
end V2
namespace M
open PySem V2
noncomputable def zeb:MS :=
 (sAsg (vOp (gAdd false) (vVar 1) (vOp (gRep false) (vLst false (zad (vVar 2) a0)) (vVar 3))) (gN 1))
noncomputable def zgb:MS :=
 (sSeq (sAsg (vLst false a0) (gN 1))
  (sSeq (sFor (vSeq (vVar 0)) (zcR 2 (zat (gN 2) (zat (gN 3) zcU))) zeb)
  (sRet (vCl (znf false) (zad (vVar 1) a0)))))
noncomputable def ze4:List A→Mo A:=fnF 4 zgb
noncomputable def zdM:MS :=
 (sSeq (sAsg (vOp gIx (vVar 0) (vOp (gSub) (vVar 1) (cI 1))) (gN 3))
  (sSeq (sAsg (vOp (gSub) (vVar 1) (vOp gIx (vLst false (zad (cI 0) (zad (cI 0) (zad (cI 1) (zad (vOp (gMod) (vOp (gDiv) (vVar 2) (cI 4)) (cI 4)) a0))))) (vOp (gMod) (vVar 2) (cI 4)))) (gN 4))
  (sSeq (sAsg (vOp (gAdd false) (vVar 1) (vOp gIx (vLst false (zad (cI 0) (zad (cI 0) (zad (cI 1) (zad (vOp (gMod) (vOp (gDiv) (vVar 2) (cI 16)) (cI 4)) a0))))) (vOp (gMod) (vOp (gDiv) (vVar 2) (cI 64)) (cI 4)))) (gN 5))
  (sSeq (sIf (zay (vOp gEq (vOp (gMod) (vOp (gDiv) (vVar 2) (cI 256)) (cI 8)) (cI 0)))
   (sAsg (vOp (gAdd false) (vVar 3) (vOp gIx (vLst false (zad (cI 1) (zad (vOp (gSub) (cI 0) (cI 1)) a0))) (vOp (gMod) (vOp (gDiv) (vVar 2) (cI 2048)) (cI 2)))) (gN 3))
   sNx)
  (sSeq (sIf (zay (vOp gEq (vOp (gMod) (vOp (gDiv) (vVar 2) (cI 4096)) (cI 8)) (cI 0)))
   (sSeq (sAsg (vOp (gSub) (vOp (gAdd false) (vVar 4) (vOp (gMod) (vOp (gDiv) (vVar 2) (cI 32768)) (cI 3))) (cI 1)) (gN 4))
   (sAsg (vOp (gSub) (vOp (gAdd false) (vVar 5) (vOp (gMod) (vOp (gDiv) (vVar 2) (cI 98304)) (cI 3))) (cI 1)) (gN 5)))
   sNx)
  (sRet (vTup (zad (vVar 3) (zad (vVar 4) (zad (vVar 5) a0))))))))))
noncomputable def zdP:List A→Mo A:=fnF 6 zdM
noncomputable def zdI:Ev→Mo A :=
 (vLC false 1 [6] (vSeq (vVar 2)) (gN 0) (zay (vOp gLt (vVar 0) (vVar 1))) (vVar 0))
noncomputable def zaZ:MS :=
 (sIf (zh6 (zay (vOp gEq (vOp gIx (vVar 0) (vOp (gSub) (vVar 6) (cI 1))) (vOp gIx (vVar 4) (cI 0)))) (zay (vOp gNe zdI (vLst false a0))))
     (sExp (vBM zdS (vVar 5) (zad (vVar 6) a0)))
     sNx)
noncomputable def zbe:MS :=
 (sSeq (sAsg (vLst true a0) (gN 5))
   (sSeq (sFor (zmb (zad (vCl zj9 (zad (cI 1) (zad (vOp gIx (vVar 4) (cI 1)) a0))) (zad (vOp (gAdd false) (vCl zqU (zad (vCl gLen (zad (vVar 0) a0)) (zad (vOp gIx (vVar 4) (cI 2)) a0))) (cI 1)) a0))) (gN 6) zaZ)
   (sSeq (sIf (zay (vOp gEq (vVar 5) (vLst false a0)))
    (sRet (vVar 3))
    sNx)
   (sAsg (vVar 5) (gN 2)))))
noncomputable def zdC:MS :=
 (sSeq (sAsg (vLst false (zad (cI 0) a0)) (gN 2))
  (sSeq (sFor (zjp (vVar 1)) (zcR 2 (zat (gN 3) (zat (gN 4) zcU))) zbe)
  (sRet cN)))
noncomputable def zbc:List A→Mo A:=fnF 7 zdC
noncomputable def zfM:MS :=
 (sSeq (sAsg (vVar 0) (zcR 2 (zat (gN 3) (zat (gN 4) zcU))))
  (sRet (vAnd (znt gLe gLe (vVar 3) (vVar 1) (vVar 4)) (vOp gLe (vOp (gSub) (vVar 4) (vVar 3)) (vVar 2)))))
noncomputable def zb5:List A→Mo A:=fnF 5 zfM
noncomputable def zaS:MS :=
 (sSeq (sAsg (vOp (gMod) (vVar 6) (vCl gLen (zad (vVar 2) a0))) (gN 7))
   (sIf (vOrT (zay (vVar 3)) (zay (vOp gEq (vOp gIx (vVar 2) (vVar 7)) (cI 0))))
    (sExp (vBM zdS (vVar 5) (zad (vCl (zaz 2 zbA) (zad (vCl (zaz 2 zbA) (zad (vOp (gMod) (vOp gIx (vVar 4) (vVar 7)) (cI 2147483647)) (zad (vOp (gAdd false) (vVar 6) (cI 7)) a0))) (zad (vOp (gAdd false) (vOp (gMod) (vOp (gMul) (vVar 6) (vVar 6)) (cI 1009)) (cI 3)) a0))) a0)))
    (sSeq (sExp (vBM zdS (vVar 5) (zad (vOp (gMod) (vOp gIx (vVar 2) (vVar 7)) (cI 2147483587)) a0)))
    (sAsg (vOp (zsg) (vOp gIx (vVar 2) (vVar 7)) (cI 2147483587)) (zof (vVar 2) (vVar 7))))))
noncomputable def zbI:MS :=
 (sSeq (sAsg (vCl (zgQ true) (zad (vVar 0) a0)) (gN 2))
  (sSeq (sIf (zay (vOp gEq (vVar 2) (vLst false a0)))
   (sAsg (vLst true (zad (cI 0) a0)) (gN 2))
   sNx)
  (sSeq (sAsg (vOp gEq (vOp (gMod) (vOp gIx (vVar 2) (cI 0)) (cI 2)) (cI 1)) (gN 3))
  (sSeq (sAsg (vOp (gDiv) (vOp gIx (vVar 2) (cI 0)) (cI 2)) (zof (vVar 2) (cI 0)))
  (sSeq (sAsg (vCl (zgQ false) (zad (vVar 2) a0)) (gN 4))
  (sSeq (sAsg (vLst true a0) (gN 5))
  (sSeq (sFor (zhg (zad (vVar 1) a0)) (gN 6) zaS)
  (sRet (vFrz 5)))))))))
noncomputable def zbr:List A→Mo A:=fnF 8 zbI
noncomputable def zbR:MS :=
 (sSeq (sAsg (vOp (gAdd false) (vOp (gAdd false) (vVar 4) (cI 1)) (vOp gIx (vLst false (zad (cI 0) (zad (cI 0) (zad (cI 1) (zad (vOp (gMod) (vVar 5) (cI 9)) a0))))) (vOp (gMod) (vOp (gDiv) (vVar 5) (cI 9)) (cI 4)))) (gN 4))
   (sIf (zay (vOp gLe (vVar 4) (vCl gLen (zad (vVar 1) a0))))
    (sExp (vBM zdS (vVar 3) (zad (vCl (zaz 3 zdP) (zad (vVar 1) (zad (vVar 4) (zad (vOp (gDiv) (vVar 5) (cI 36)) a0)))) a0)))
    sNx))
noncomputable def zdg:MS :=
 (sSeq (sAsg (vLst true a0) (gN 3))
  (sSeq (sAsg (cI 0) (gN 4))
  (sSeq (sFor (vSeq (vVar 0)) (gN 5) zbR)
  (sSeq (sIf (vOrT (zay (vOp gEq (vVar 3) (vLst false a0))) (zay (vOp gGt (vOp (gMod) (vVar 2) (cI 4)) (cI 0))))
   (sAsg (vOp (gAdd true) (vLst false (zad (vTup (zad (vOp gIx (vVar 1) (cI 0)) (zad (cI 1) (zad (cI 1) a0)))) a0)) (vSl false (vVar 3) (zhI (cI 1)) sl0)) (gN 3))
   sNx)
  (sSeq (sIf (zh6 (zay (vOp gGt (vOp (gMod) (vOp (gDiv) (vVar 2) (cI 4)) (cI 4)) (cI 0))) (zay (vOp (gMem true) (vTup (zad (vOp gIx (vVar 1) (vNeg (cI 1))) (zad (vCl gLen (zad (vVar 1) a0)) (zad (vCl gLen (zad (vVar 1) a0)) a0)))) (vVar 3))))
   (sExp (vBM zdS (vVar 3) (zad (vTup (zad (vOp gIx (vVar 1) (vNeg (cI 1))) (zad (vCl gLen (zad (vVar 1) a0)) (zad (vCl gLen (zad (vVar 1) a0)) a0)))) a0)))
   sNx)
  (sRet (vFrz 3)))))))
noncomputable def zc9:List A→Mo A:=fnF 6 zdg
noncomputable def zcr:Ev→Mo A :=
 (vOp gGt (vOp gIx (vVar 0) (cI 0)) (vVar 1))
noncomputable def zhq:MS :=
 (sRet (vCl (zaz 2 zaP) (zad (vVar 0) (zad (vFW 0 "upto" ⟨110,53,110,84⟩ (zgU "upto") [1] (fun ns a=>fwR (lamG zcr ns) a) (vOp gIx (vVar 0) (cI 3))) a0))))
noncomputable def zeP:List A→Mo A:=fnF 2 zhq
noncomputable def zb3:Ev→Mo A :=
 (vOp gGe (vOp gIx (vVar 0) (cI 0)) (vVar 1))
noncomputable def zgu:MS :=
 (sRet (vCl (zaz 2 zaP) (zad (vVar 0) (zad (vFW 1 "below" ⟨112,53,112,85⟩ (zgU "below") [1] (fun ns a=>fwR (lamG zb3 ns) a) (vOp gIx (vVar 0) (cI 3))) a0))))
noncomputable def zdW:List A→Mo A:=fnF 2 zgu
noncomputable def za1:Ev→Mo A :=
 (vOp gGt (vOp gIx (vVar 0) (cI 2)) (vVar 1))
noncomputable def zdG:MS :=
 (sSeq (sIf (vOrT (zay (vOp gLt (vVar 1) (cI 1))) (zay (vOp gGt (vVar 1) (vOp gIx (vVar 0) (cI 0)))))
   (zlo "NoPlace" (zad (cS "the places go from 1 to the size") a0))
   sNx)
  (sSeq (sAsg (vOp gIx (vVar 0) (cI 3)) (gN 2))
  (sSeq (sAsg (vOp (gAdd false) (vVar 1) (vOp (gDiv) (vOp (gAdd false) (vOp gIx (vVar 0) (cI 1)) (cI 1)) (cI 2))) (gN 3))
  (sRet (vOp gIx (vOp gIx (vVar 2) (vOp (gSub) (vFW 2 "so_manieth" ⟨118,40,118,73⟩ (zgU "so_manieth") [3] (fun ns a=>fwR (lamG za1 ns) a) (vVar 2)) (cI 1))) (cI 0))))))
noncomputable def zbJ:List A→Mo A:=fnF 4 zdG
noncomputable def zcO:MS :=
 (sSeq (sIf (zgR (zay (vCl (zaz 3 zb5) (zad (vCl (zaz 2 zeP) (zad (vVar 2) (zad (vVar 3) a0))) (zad (vCl (zaz 2 zea) (zad (vVar 0) (zad (vVar 3) a0))) (zad (vOp gIx (vVar 2) (cI 1)) a0))))))
    (sRet (cB false))
    sNx)
   (sIf (zgR (zay (vCl (zaz 3 zb5) (zad (vCl (zaz 2 zdW) (zad (vVar 2) (zad (vVar 3) a0))) (zad (vCl (zaz 2 zdN) (zad (vVar 0) (zad (vVar 3) a0))) (zad (vOp gIx (vVar 2) (cI 1)) a0))))))
    (sRet (cB false))
    sNx))
noncomputable def zcL:MS :=
 (sSeq (sAsg (vCl (zaz 2 zbJ) (zad (vVar 2) (zad (vVar 5) a0))) (gN 3))
   (sSeq (sAsg (vSl false (vVar 1) (zhI (vCl zj9 (zad (cI 0) (zad (vOp (gSub) (vOp (gSub) (vVar 5) (vVar 4)) (cI 1)) a0)))) (zhI (vOp (gAdd false) (vVar 5) (vVar 4)))) (gN 6))
   (sIf (zay (vOp (gMem true) (vVar 3) (vVar 6)))
    (sRet (cB false))
    sNx)))
noncomputable def zeJ:MS :=
 (sSeq (sFor (zmb (zad (vOp (gSub) (cI 0) (cI 1)) (zad (cI 7) a0))) (gN 3) zcO)
  (sSeq (sAsg (vOp (gDiv) (vOp (gAdd false) (vOp gIx (vVar 2) (cI 1)) (cI 1)) (cI 2)) (gN 4))
  (sSeq (sFor (zmb (zad (cI 1) (zad (vOp (gAdd false) (vCl gLen (zad (vVar 1) a0)) (cI 1)) a0))) (gN 5) zcL)
  (sRet (cB true)))))
noncomputable def zdc:List A→Mo A:=fnF 7 zeJ
noncomputable def zbE:Addr→Addr→Exc→MS :=
 fun p d e=>(sAsg (vLst false (zad (cS "pouch") (zad (gXAt p d e ["NoPouch", "NoRow", "Wrong"] "at" (vVar 4)) a0))) (gN 2))
noncomputable def zbG:Addr→Addr→Exc→MS :=
 fun p d e=>(sAsg (vLst false (zad (cS "wrong") (zad (gXAt p d e ["NoPouch", "NoRow", "Wrong"] "at" (vVar 4)) a0))) (gN 2))
noncomputable def zce:MS :=
 (sAsg (vCl (zaz 2 zdu) (zad (vCl (zgQ false) (zad (vVar 0) a0)) (zad (vOp (gAdd false) (vSl false (vVar 1) sl0 (zhI (cI 3))) (vTup (zad (vCl (zgQ false) (zad (vOp gIx (vVar 1) (cI 3)) a0)) a0))) a0))) (gN 3))
noncomputable def zb2:MS :=
 (sSeq (sAsg cN (gN 2))
  (sSeq (sAsg cN (gN 3))
  (sSeq (zkN 4 (zka ["NoPouch", "NoSize", "NoPlace", "NoRow", "Wrong"] ["RankError", "NoRow", "NoPlace", "NoPouch", "NoSize", "Wrong"] "NoPouch" zbE (zka ["NoPouch", "NoSize", "NoPlace", "NoRow", "Wrong"] ["RankError", "NoRow", "NoPlace", "NoPouch", "NoSize", "Wrong"] "Wrong" zbG hNil)) zce)
  (sSeq (sIf (zay (vOp (gIsN false) (vVar 2) cN))
   (sRet (vLst false (zad (cS "good") (zad (vCl zn2 (zad (vOp (gIsB true) (vVar 3) (cB true)) a0)) a0))))
   sNx)
  (sRet (vVar 2))))))
noncomputable def zcJ:List A→Mo A:=noX (fnF 5 zb2)
noncomputable def zeL:MS :=
 (sExp (vBM zdS (vVar 2) (zad (vTup (zad (vOp (gMod) (vVar 3) (cI 6)) (zad (vOp (gAdd false) (cI 1) (vOp (gMod) (vOp (gDiv) (vVar 3) (cI 6)) (cI 6))) a0))) a0)))
noncomputable def zfN:MS :=
 (sSeq (sAsg (vCl (zaz 2 zbr) (zad (vVar 0) (zad (cI 75) a0))) (gN 1))
  (sSeq (sAsg (vLst true a0) (gN 2))
  (sSeq (sFor (vSeq (vSl false (vVar 1) (zhI (cI 2)) (zhI (vOp (gAdd false) (cI 3) (vOp (gMod) (vOp gIx (vVar 1) (cI 0)) (cI 10)))))) (gN 3) zeL)
  (sFrz 2 (sSeq (sAsg (vCl (zaz 1 ze4) (zad (vVar 2) a0)) (gN 4))
  (sSeq (sAsg (vCl (zaz 3 zc9) (zad (vSl false (vVar 1) (zhI (cI 12)) (zhI (vOp (gAdd false) (cI 12) (vOp (gMod) (vOp (gDiv) (vOp gIx (vVar 1) (cI 0)) (cI 10)) (cI 62))))) (zad (vVar 4) (zad (vOp gIx (vVar 1) (cI 1)) a0)))) (gN 5))
  (sSeq (sAsg (vCl zj9 (zad (cI 0) (zad (vOp (gSub) (vCl (zaz 1 zde) (zad (vVar 5) a0)) (vCl zn2 (zad (vOp gEq (vOp (gMod) (vOp (gDiv) (vOp gIx (vVar 1) (cI 1)) (cI 16)) (cI 8)) (cI 0)) a0))) a0))) (gN 6))
  (sSeq (sAsg (vTup (zad (vCl gLen (zad (vVar 4) a0)) (zad (vVar 6) (zad (vOp (gMod) (vOp (gDiv) (vOp gIx (vVar 1) (cI 1)) (cI 128)) (cI 3)) (zad (vVar 5) a0))))) (gN 7))
  (sSeq (sAsg (vLst false (zad (cS "good") (zad (cI 0) a0))) (gN 8))
  (sSeq (sIf (zay (vOp (gIsN true) (vCl (zaz 1 za9) (zad (vVar 7) a0)) cN))
   (sAsg (vLst false (zad (cS "pouch") (zad (vCl (zaz 1 za9) (zad (vVar 7) a0)) a0))) (gN 8))
   (sIf (zay (vOp (gIsN true) (vCl (zaz 2 zbc) (zad (vVar 4) (zad (vVar 5) a0))) cN))
    (sAsg (vLst false (zad (cS "wrong") (zad (vCl (zaz 2 zbc) (zad (vVar 4) (zad (vVar 5) a0))) a0))) (gN 8))
    sNx))
  (sSeq (sIf (zay (vOp gNe (vCl (zaz 2 zcJ) (zad (vVar 2) (zad (vVar 7) a0))) (vVar 8)))
   (sRet (cB false))
   sNx)
  (sRet (vOr (vOp gNe (vOp gIx (vVar 8) (cI 0)) (cS "good")) (vCl (zaz 3 zdc) (zad (vVar 2) (zad (vVar 4) (zad (vVar 7) a0)))))))))))))))))
noncomputable def zjB:List A→Mo A:=fnF 9 zfN
end M
namespace V2
open PySem L2
@[simp] theorem zlH (neg:Bool) (i j:Int) (Ω:Sto):gEqB neg (.int i) (.int j) Ω=some (.ok (.bl (if neg then !(i == j) else i == j)),Ω):=by
 simp [gEqB,res,pur,eqA]
@[simp] theorem ztB (i j:Int) (Ω:Sto):gEq (.int i) (.int j) Ω=some (.ok (.bl (i == j)),Ω):=zlH false i j Ω
@[simp] theorem zt4 (i j:Int) (Ω:Sto):gNe (.int i) (.int j) Ω=some (.ok (.bl (!(i == j))),Ω):=zlH true i j Ω
theorem zkr {i j:Int} (h0 : -18446744073709551616 < i) (h1:i < 18446744073709551616):CMul i j := .inl ⟨h0,h1⟩
theorem zs6 {i j:Int} (h0 : -18446744073709551616 < j) (h1:j < 18446744073709551616):CMul i j := .inr ⟨h0,h1⟩
@[simp] theorem zur {α:Type} (x:α) (l:List α):atI (x :: l) 0=some x:=zo2 _
@[simp] theorem zut {α:Type} (x y:α) (l:List α):atI (x :: y :: l) 1=some y:=zqv _
@[simp] theorem zus {α:Type} (x y z:α) (l:List α):atI (x :: y :: z :: l) 2=some z:=zkb _ 2
@[simp] theorem zuq {α:Type} (x y z u:α) (l:List α):atI (x :: y :: z :: u :: l) 3=some u:=zkb _ 3
end V2
namespace M
open PySem L2 V2
def mixI (c k:Int):Int :=
 ((c + 1) * (48271 + 118 * k) % 2147483629 / 977 * 16807 + (c + 1) * (48271 + 118 * k) % 2147483629 * (k * k + 7) + k) % 2147483587
theorem mix0 (c k:Int):0 ≤ mixI c k:=Int.emod_nonneg _ (by decide)
theorem mix1 (c k:Int):mixI c k < 2147483587:=Int.emod_lt_of_pos _ (by decide)
theorem zr7 (c k:Int) (Ω:Sto) (hc:0 ≤ c) (hc1:c < 8589934592) (hk:0 ≤ k) (hk1:k < 1048576):zbA [.int c, .int k] Ω=some (.ok (.int (mixI c k)),Ω):=by
 have f0:=Int.emod_nonneg ((c + 1) * (48271 + 118 * k)) (show (2147483629:Int) ≠ 0 by decide)
 have f1:=Int.emod_lt_of_pos ((c + 1) * (48271 + 118 * k)) (show (0:Int) < 2147483629 by decide)
 have h1:CMul (c + 1) (48271 + 118 * k):=zkr (by omega) (by omega)
 have h2:CMul k k:=zkr (by omega) (by omega)
 have h3:∀ j,CMul ((c + 1) * (48271 + 118 * k) % 2147483629) j:=fun j=>zkr (by omega) (by omega)
 have h4:∀ j,CMul j 16807:=fun j=>zs6 (by decide) (by decide)
 have h5:∀ j,CMul 118 j:=fun j=>zkr (by decide) (by decide)
 have h6:∀ j,CDiv j 977:=fun j=>⟨by decide,by decide⟩
 simp [zbA,zh9,h1,h2,h3,h4,h5,h6,mixI]
end M
namespace V2
open PySem L2
theorem zf5 {f:A→A→Bool}:∀ (xs:List A),(∀ x ∈ xs,f x x=true)→zis f xs xs=true
 | [],_=>rfl
 | x :: xs,h=>by simp only [zis,h x (List.mem_cons_self ..),Bool.true_and];exact zf5 xs fun y hy=>h y (List.mem_cons_of_mem _ hy)
theorem zoF:∀ (n:Nat) (a:A),pur n a=true→eqA n a a=true:=by
 intro n
 induction n with
 | zero=>intro a h;cases a <;> first | (simp [eqA];done) | (simp [pur] at h)
 | succ n ih =>
  intro a h
  cases a with
  | tup ds=>simp only [pur,List.all_eq_true] at h;simp only [eqA];exact zf5 ds fun x hx=>ih x (h x hx)
  | lst ds=>simp only [pur,List.all_eq_true] at h;simp only [eqA];exact zf5 ds fun x hx=>ih x (h x hx)
  | int i=>simp [eqA]
  | bl i=>simp [eqA]
  | str i=>simp [eqA]
  | non=>simp [eqA]
  | _=>simp [pur] at h
theorem zb6 {Ω:Sto} {n:Nat} {a:A} (h:pur 8 a=true):res Ω n a=some a:=by
 cases n <;> simp [res,h]
theorem zi2 {Ω:Sto} {n k:Nat} {ds:List A} (h:Ω[k]? = some (.lst ds)):res Ω (n + 1) (.cel k)=(mapO (res Ω n) ds).map .lst:=by
 rw [res,if_neg (by simp [pur])]
 simp [h]
theorem zg7 {Ω:Sto} {n:Nat}:∀ (ds:List A),ds.all (pur 8)=true→mapO (res Ω n) ds=some ds
 | [],_=>rfl
 | d :: ds,h=>by
  simp only [List.all_cons,Bool.and_eq_true] at h
  simp [mapO,zb6 h.1,zg7 ds h.2]
abbrev E:=Int × Int × Int
def encE (e:E):A := .tup [.int e.1, .int e.2.1, .int e.2.2]
def encL (es:List E):List A:=es.map encE
@[simp] theorem ztz (n:Nat) (i:Int):pur n (.int i)=true:=by cases n <;> rfl
theorem zrx (n:Nat) (ds:List A):pur (n + 1) (.tup ds)=ds.all (pur n):=rfl
theorem zqj (n:Nat) (ds:List A):pur (n + 1) (.lst ds)=ds.all (pur n):=rfl
@[simp] theorem ztm (n:Nat) (e:E):pur (n + 1) (encE e)=true:=by simp [encE,zrx]
@[simp] theorem zi8 (n:Nat) (es:List E):(encL es).all (pur (n + 1))=true:=by simp [encL]
def encP (s l d:Int) (es:List E):A := .tup [.int s, .int l, .int d, .lst (encL es)]
@[simp] theorem ztk (es:List E):(encL es).length=es.length:=by simp [encL]
end V2
namespace M
open PySem L2 V2
end M
namespace M
open PySem L2 V2
def loE (es:List E) (i:Nat):Int:=if i=0 then 0 else (es[i - 1]?.getD (0,0,0)).2.1
def hiE (s:Int) (es:List E) (i:Nat):Int:=match es[i]? with
 | some e=>e.2.2 - 1
 | none=>s
theorem zcc (es:List E) (i:Nat):(encL es)[i]? = es[i]?.map encE:=by simp [encL]
theorem zhc {α:Type} (xs:List α) (i:Nat) (h:0 < i):atI xs ((i:Int) - 1)=xs[i - 1]?:=by
 rw [show ((i:Int) - 1)=((i - 1:Nat):Int) by omega];exact zbO xs _
theorem ziH (es:List E) (i:Nat) (h:i < es.length):loE es (i + 1)=es[i].2.1:=by simp [loE,h]
theorem zpp (s:Int) (es:List E) (i:Nat) (h:i < es.length):hiE s es i=es[i].2.2 - 1:=by simp [hiE,h]
theorem zna (s:Int) (es:List E):hiE s es es.length=s:=by simp [hiE]
end M
namespace M
open PySem L2 V2
end M
namespace M
open PySem L2 V2
def Ch (l s:Int):Int→Int→Option Int→List E→Prop
 | lo,hp,_,[]=>lo=s∧hp=s
 | lo,hp,pr,e :: r=>(∀ p,pr=some p→p ≤ e.1)∧(pr=some e.1∨e.2.2 ≤ lo + l + 1)∧lo < e.2.1∧hp < e.2.2∧e.2.1 ≤ e.2.2∧e.2.2 - e.2.1 ≤ l∧Ch l s e.2.1 e.2.2 (some e.1) r
def zsf (es:List E):Prop:=∀ e r,es=e :: r→e.2.1=1∧e.2.2=1
structure GF (s l d:Int) (es:List E):Prop where
 s0:0 ≤ s
 l0:0 ≤ l
 d0:0 ≤ d
 fst:zsf es
 ch:Ch l s 0 0 none es
theorem Ch.bound {l s:Int}:∀ {es:List E} {lo hp:Int} {pr:Option Int},Ch l s lo hp pr es→lo ≤ s∧hp ≤ s
 | [],_,_,_,h=>⟨Int.le_of_eq h.1,Int.le_of_eq h.2⟩
 | e :: r,_,_,_,h=>by
  obtain ⟨_,_,h3,h4,_,_,h7⟩:=h
  have:=Ch.bound h7
  omega
end M
namespace M
open PySem L2 V2
def zfA (l:Int) (k y:E):Bool:=decide (y.1=k.1) || decide (y.2.2 ≤ k.2.1 + l + 1)
theorem zhE (l:Int) (k y:E):zfA l k y=true↔(y.1=k.1∨y.2.2 ≤ k.2.1 + l + 1):=by simp [zfA]
theorem zpF {l s:Int}:∀ (xs:List E) (lo hp:Int) (pr:Option Int),Ch l s lo hp pr xs→∀ c ∈ xs,hp < c.2.2∧lo < c.2.1∧c.2.2 - c.2.1 ≤ l∧c.2.1 ≤ s∧c.2.2 ≤ s
 | [],_,_,_,_,c,h=>by cases h
 | x :: r,lo,hp,pr,h,c,hc=>by
  obtain ⟨a1,a2,a3,a4,a5,a6,a7⟩:=h
  rcases List.mem_cons.mp hc with z | z
  ·subst z
   have:=a7.bound
   exact ⟨a4,a3,a6,this.1,this.2⟩
  ·obtain ⟨b1,b2,b3,b4,b5⟩:=zpF r _ _ _ a7 c z
   exact ⟨by omega,by omega,b3,b4,b5⟩
end M
namespace V2
open PySem L2
@[simp] theorem zmL (neg:Bool) (i j:Bool) (Ω:Sto):gEqB neg (.bl i) (.bl j) Ω=some (.ok (.bl (if neg then !(i == j) else i == j)),Ω):=by
 simp [gEqB,res,pur,eqA]
@[simp] theorem zuj (i j:Bool) (Ω:Sto):gEq (.bl i) (.bl j) Ω=some (.ok (.bl (i == j)),Ω):=zmL false i j Ω
@[simp] theorem zul (i j:Bool) (Ω:Sto):gNe (.bl i) (.bl j) Ω=some (.ok (.bl (!(i == j))),Ω):=zmL true i j Ω
theorem zm9 (es:List E):eqA 8 (.lst (encL es)) (.lst [])=es.isEmpty:=by
 cases es <;> rfl
theorem zpi (neg:Bool) (es:List E) (Ω:Sto):gEqB neg (.lst (encL es)) (.lst []) Ω=some (.ok (.bl (if neg then !es.isEmpty else es.isEmpty)),Ω):=by
 have h1:pur 8 (.lst (encL es))=true:=by rw [zqj];exact zi8 6 es
 have h2:pur 8 (.lst [])=true:=rfl
 unfold gEqB
 rw [zb6 h1,zb6 h2]
 simp [h1,h2,zm9]
@[simp] theorem ztZ (es:List E) (Ω:Sto):gEq (.lst (encL es)) (.lst []) Ω=some (.ok (.bl es.isEmpty),Ω):=zpi false es Ω
@[simp] theorem zkw (a b c d:Int) (Ω:Sto):gNe (.tup [.int a, .int b]) (.tup [.int c, .int d]) Ω=some (.ok (.bl (!(a == c && b == d))),Ω):=by
 have h1:∀ a b:Int,pur 8 (.tup [.int a, .int b])=true:=fun a b=>rfl
 unfold gNe gEqB
 rw [zb6 (h1 a b),zb6 (h1 c d)]
 simp [h1,eqA,zis]
end V2
namespace M
open PySem L2 V2
theorem zsL (l:Int) (k y:E) (Ω:Sto):zb0 [encE k,encE y, .int l] Ω=some (.ok (.bl (zfA l k y)),Ω):=by
 by_cases h:y.1=k.1
 ·simp [zb0,zei,encE,h,zfA]
 ·simp [zb0,zei,encE,h,zfA]
theorem zlv (e:E) (p:Int) (Ω:Sto):zcm [encE e, .int p] Ω=some (.ok (.bl (decide (e.2.1=p∧e.2.2=p))),Ω):=by
 by_cases h:e.2.1=p
 ·by_cases h2:e.2.2=p <;> simp [zcm,zfx,encE,h,h2]
 ·simp [zcm,zfx,encE,h]
theorem zrb (e:E) (l:Int) (Ω:Sto):zcs [encE e, .int l] Ω=some (.ok (.bl (decide (e.2.1 ≤ e.2.2∧e.2.2 - e.2.1 ≤ l))),Ω):=by
 by_cases h:e.2.1 ≤ e.2.2
 ·simp [zcs,zet,encE,h]
 ·simp [zcs,zet,encE,h]
theorem zoL (e f:E) (l:Int) (Ω:Sto):zbf [encE e,encE f, .int l] Ω=some (.ok (.bl (decide (e.1 ≤ f.1∧e.2.1 < f.2.1∧e.2.2 < f.2.2) && zfA l e f)),Ω):=by
 have q:=fun Ω=>zsL l e f Ω
 simp only [encE] at q
 by_cases h1:e.1 ≤ f.1
 ·have n1:¬ f.1 < e.1:=by omega
  by_cases h2:e.2.1 < f.2.1
  ·have n2:¬ f.2.1 ≤ e.2.1:=by omega
   by_cases h3:e.2.2 < f.2.2
   ·have n3:¬ f.2.2 ≤ e.2.2:=by omega
    simp [zbf,zcK,encE,h1,h2,h3,n1,n2,n3,q]
   ·have n3:f.2.2 ≤ e.2.2:=by omega
    simp [zbf,zcK,encE,h1,h2,h3,n1,n2,n3]
  ·have n2:f.2.1 ≤ e.2.1:=by omega
   simp [zbf,zcK,encE,h1,h2,n1,n2]
 ·have n1:f.1 < e.1:=by omega
  simp [zbf,zcK,encE,h1,n1]
theorem znS (e:E) (es:List E):encL (e :: es)=encE e :: encL es:=rfl
theorem zmH {s l d:Int} {es:List E} (h:GF s l d es):(s=0↔es=[]):=by
 cases es with
 | nil=>exact ⟨fun _=>rfl,fun _=>h.ch.1.symm⟩
 | cons e r =>
  obtain ⟨_,_,a3,_,_,_,a7⟩:=h.ch
  have:=a7.bound
  exact ⟨fun z=>by omega,fun z=>by cases z⟩
theorem zjX {l s:Int}:∀ (es:List E) (lo hp:Int) (pr:Option Int) (i:Nat) (e:E),Ch l s lo hp pr es→es[i]? = some e→e.2.1 ≤ e.2.2∧e.2.2 - e.2.1 ≤ l∧(i + 1=es.length→e.2.1=s∧e.2.2=s)∧∀ f,es[i + 1]? = some f→e.1 ≤ f.1∧e.2.1 < f.2.1∧e.2.2 < f.2.2∧zfA l e f=true
 | [],_,_,_,_,_,_,h=>by simp at h
 | x :: r,lo,hp,pr,0,e,h,he=>by
  obtain ⟨a1,a2,a3,a4,a5,a6,a7⟩:=h
  simp at he;subst he
  refine ⟨a5,a6,fun hl=>?_,fun f hf=>?_⟩
  ·have:r=[]:=List.eq_nil_of_length_eq_zero (by simp only [List.length_cons] at hl;omega)
   subst this;exact a7
  ·cases r with
   | nil=>simp at hf
   | cons y r =>
    simp at hf;subst hf
    obtain ⟨b1,b2,b3,b4,_⟩:=a7
    refine ⟨b1 _ rfl,b3,b4,?_⟩
    rw [zhE]
    rcases b2 with z | z
    ·left;exact (Option.some.inj z).symm
    ·right;exact z
 | x :: r,lo,hp,pr,i + 1,e,h,he=>by
  obtain ⟨a1,a2,a3,a4,a5,a6,a7⟩:=h
  simp at he
  obtain ⟨c1,c2,c3,c4⟩:=zjX r _ _ _ i e a7 he
  exact ⟨c1,c2,fun hl=>c3 (by simp only [List.length_cons] at hl;omega),fun f hf=>c4 f (by simpa using hf)⟩
end M
namespace M
open PySem L2 V2
theorem sl3 (n a b:Int) (Ω:Sto):gSl false (.tup [.int n, .int a, .int b]) (some 1) none Ω=some (.ok (.tup [.int a, .int b]),Ω):=by
 have h1:HT.sIx 3 0 (some 1)=1:=by decide
 have h2:HT.sIx 3 3 none=3:=rfl
 simp [h1,cutA,h2]
structure Po where
 s:Int
 l:Int
 d:Int
 es:List E
def encQ (p:Po):A:=encP p.s p.l p.d p.es
structure Ok (keep:Int) (m:Nat) (p:Po):Prop where
 gf:GF p.s p.l p.d p.es
 kp:keep * p.l ≤ p.d * p.s
 dm:p.d ≤ m
end M
namespace M
open PySem L2 V2
def lenE (ps:List Po):Nat:=(ps.map fun p=>p.es.length).sum
end M
namespace M
open PySem L2 V2
end M
namespace V2
open PySem L2
theorem zoN {α:Type} (l:List α) (x:α):atI (l ++ [x]) (-1)=some x:=by
 unfold atI ixN
 rw [if_neg (by decide),if_pos (by simp;omega)]
 simp
 have:((-1:Int) + ((l.length:Int) + 1)).toNat=l.length:=by omega
 rw [this]
 simp
end V2
namespace M
open PySem L2 V2
end M
namespace V2
open PySem L2
theorem ziM {ok:Sto→Prop} {g:A→MS} {c:Ev→Mo Bool} {e:Ev→Mo A} (F:A→Option A) (P:Ev→Prop) (Ω0:Sto) (hok:∀ ys,ok (Ω0 ++ [.lst ys])):∀ (xs:List A) (ρ:Ev) (acc:List A),P ρ→acc.length + xs.length ≤ 1000000 →
  (∀ x ∈ xs,∀ ρ,P ρ→∀ ys,∃ ρ1,P ρ1∧g x ρ (Ω0 ++ [.lst ys])=some (.nx,ρ1,Ω0 ++ [.lst ys])∧((∃ y,F x=some y∧c ρ1 (Ω0 ++ [.lst ys])=some (.ok true,Ω0 ++ [.lst ys])∧e ρ1 (Ω0 ++ [.lst ys])=some (.ok y,Ω0 ++ [.lst ys]))∨(F x=none∧c ρ1 (Ω0 ++ [.lst ys])=some (.ok false,Ω0 ++ [.lst ys])))) →
  ∃ ρ',fLC ok g c e Ω0.length xs ρ (Ω0 ++ [.lst acc])=some (ρ',Ω0 ++ [.lst (acc ++ xs.filterMap F)])
 | [],ρ,acc,_,_,_=>⟨ρ,by simp [fLC,hok]⟩
 | x :: xs,ρ,acc,hP,hl,turn=>by
  simp only [List.length_cons] at hl
  obtain ⟨ρ1,hP1,e1,q⟩:=turn x (List.mem_cons_self ..) ρ hP acc
  have hz:acc.length < sizeLine:=by rw [sizeLine_eq];omega
  rcases q with ⟨y,f1,e2,e3⟩ | ⟨f1,e2⟩
  ·obtain ⟨ρ',ih⟩:=ziM F P Ω0 hok xs ρ1 (acc ++ [y]) hP1 (by simp;omega) fun x hx=>turn x (List.mem_cons_of_mem _ hx)
   exact ⟨ρ',by simp [fLC,hok,e1,e2,e3,hz,ih,f1]⟩
  ·obtain ⟨ρ',ih⟩:=ziM F P Ω0 hok xs ρ1 acc hP1 (by omega) fun x hx=>turn x (List.mem_cons_of_mem _ hx)
   exact ⟨ρ',by simp [fLC,hok,e1,e2,ih,f1]⟩
theorem zgW {n:Nat} {js:List Nat} {fi:Ev→Mo Src} {g:A→MS} {c:Ev→Mo Bool} {e:Ev→Mo A} {ρ:Ev} {Ω Ω0:Sto} {S:Src} (F:A→Option A) (P:Ev→Prop) (hfi:fi ρ Ω=some (.ok S,Ω0)) (hok:∀ ys,S.ok (Ω0 ++ [.lst ys])) (hP:P (lcEv n js ρ)) (hl:S.ds.length ≤ 1000000)
  (turn:∀ x ∈ S.ds,∀ ρ,P ρ→∀ ys,∃ ρ1,P ρ1∧g x ρ (Ω0 ++ [.lst ys])=some (.nx,ρ1,Ω0 ++ [.lst ys])∧((∃ y,F x=some y∧c ρ1 (Ω0 ++ [.lst ys])=some (.ok true,Ω0 ++ [.lst ys])∧e ρ1 (Ω0 ++ [.lst ys])=some (.ok y,Ω0 ++ [.lst ys]))∨(F x=none∧c ρ1 (Ω0 ++ [.lst ys])=some (.ok false,Ω0 ++ [.lst ys]))))
  (hc:ClL Ω0.length (S.ds.filterMap F)):vLC false n js fi g c e ρ Ω=some (.ok (.lst (S.ds.filterMap F)),Ω0):=by
 obtain ⟨ρ',q⟩:=ziM F P Ω0 hok S.ds (lcEv n js ρ) [] hP (by simpa using hl) turn
 simp [vLC,mb,hfi,q,zq3,hc]
theorem zo9 {a b c:A} {Ω:Sto} (ha:res Ω 6 a=some c) (hb:res Ω 6 b=some c) (hc:pur 8 c=true):gNe a b Ω=some (.ok (.bl false),Ω):=by
 simp [gNe,gEqB,ha,hb,hc,zoF 8 c hc]
theorem zlh {a:A} {Ω:Sto} (h:pur 8 a=true):gNe a a Ω=some (.ok (.bl false),Ω):=zo9 (zb6 h) (zb6 h) h
end V2
namespace V2
open PySem L2
theorem rngO {f:Ev→Mo (List A)} {ρ:Ev} {Ω Ω':Sto} {j:Int} (h:f ρ Ω=some (.ok [.int j],Ω')) (hs:za6 j):zhg f ρ Ω=some (.ok (zej 0 j.toNat),Ω'):=by
 unfold zhg
 rw [zke h]
 show mb (chk (za6 j)) _ Ω'=_
 rw [zmP _ hs]
 rfl
theorem forO {fi:Ev→Mo Src} {g:A→MS} {b:MS} {ρ:Ev} {Ω Ω':Sto} {S:Src} (h:fi ρ Ω=some (.ok S,Ω')):sFor fi g b ρ Ω=fFor S.ok g b S.ds ρ Ω':=by
 unfold sFor
 rw [zmD h]
theorem zhw {n:Nat}:∀ {as:List A},(∀ a ∈ as,Cl n a)→ClL n as
 | [],_=>by simp only [ClL]
 | a :: as,h=>by simp only [ClL];exact ⟨h a (List.mem_cons_self ..),zhw fun b hb=>h b (List.mem_cons_of_mem _ hb)⟩
end V2
namespace M
open PySem L2 V2
abbrev Rn:=Int × Int
def encT (r:Rn):A := .tup [.int r.1, .int r.2]
def zaf (rs:List Rn):List A:=rs.map encT
theorem clT (n:Nat) (r:Rn):Cl n (encT r):=by simp [encT,Cl,ClL]
theorem zpE (n:Nat) (rs:List Rn):ClL n (zaf rs):=zhw fun a h=>by
 obtain ⟨r,_,rfl⟩:=List.mem_map.mp h
 exact clT n r
def und (rs:List Rn) (n:Int):Int:=(rs.map fun r=>if r.1 < n then r.2 else 0).sum
def upt (rs:List Rn) (n:Int):Int:=(rs.map fun r=>if r.1 ≤ n then r.2 else 0).sum
def tot (rs:List Rn) (n:Int):Int:=(rs.map fun r=>if r.1=n then r.2 else 0).sum
def whole (rs:List Rn):Int:=(rs.map (·.2)).sum
def zcC (ks:List Int) (f:Int→Int):List (Key × A):=ks.map fun k=>(.inl k, .int (f k))
theorem zmA (ks:List Int) (f:Int→Int) (n:Int):valA (zcC ks f) (.inl n)=if n ∈ ks then some (.int (f n)) else none:=by
 induction ks with
 | nil=>rfl
 | cons k ks ih =>
  simp only [valA,zcC,List.map_cons,List.find?_cons] at ih ⊢
  by_cases e:k=n
  ·subst e;simp
  ·have:(Sum.inl k:Key) ≠ Sum.inl n:=fun z=>e (Sum.inl.inj z)
   simp only [this,decide_false]
   rw [ih]
   have e':¬ n=k:=fun z=>e z.symm
   simp [e']
theorem zqZ (ks:List Int) (f:Int→Int) (n:Int):((zcC ks f).any fun kv=>decide (kv.1=(Sum.inl n:Key)))=decide (n ∈ ks):=by
 induction ks with
 | nil=>rfl
 | cons k ks ih =>
  simp only [zcC,List.map_cons,List.any_cons] at ih ⊢
  rw [ih]
  by_cases e:k=n
  ·subst e;simp
  ·have h1:(Sum.inl k:Key) ≠ Sum.inl n:=fun z=>e (Sum.inl.inj z)
   have e':¬ n=k:=fun z=>e z.symm
   simp [h1,e']
def addK (ks:List Int) (n:Int):List Int:=if n ∈ ks then ks else ks ++ [n]
theorem zqf (ks:List Int) (f g:Int→Int) (n:Int) (hg:∀ k ∈ ks,k ≠ n→g k=f k):putA (zcC ks f) (.inl n) (.int (g n))=zcC (addK ks n) g:=by
 unfold putA addK
 rw [zqZ]
 by_cases h:n ∈ ks
 ·simp only [h,decide_true,if_true]
  simp only [zcC,List.map_map]
  refine List.map_congr_left fun k hk=>?_
  by_cases e:k=n
  ·subst e;simp
  ·have h1:(Sum.inl k:Key) ≠ Sum.inl n:=fun z=>e (Sum.inl.inj z)
   simp [h1,hg k hk e]
 ·simp only [h,decide_false,if_false]
  simp only [zcC,List.map_append,List.map_cons,List.map_nil]
  rw [List.map_congr_left (g:=fun k=>((Sum.inl k:Key),A.int (g k))) fun k hk=>by rw [hg k hk (fun z=>h (z ▸ hk))]]
  simp
def zen (ks:List Int) (rs:List Rn):List Int:=rs.foldl (fun ks r=>addK ks r.1) ks
theorem zl1 {ks:List Int} {n:Int} (h:ks.Nodup):(addK ks n).Nodup:=by
 unfold addK
 split
 ·exact h
 ·rename_i hn
  rw [List.nodup_append]
  refine ⟨h,by simp,fun a ha b hb e=>?_⟩
  simp only [List.mem_singleton] at hb
  exact hn (hb ▸ e ▸ ha)
theorem zlP {ks:List Int} {n k:Int}:k ∈ addK ks n↔k ∈ ks∨k=n:=by
 unfold addK
 split
 ·rename_i h;exact ⟨.inl,fun z=>z.elim id fun e=>e ▸ h⟩
 ·simp
theorem zll (ks:List Int) (n:Int):(addK ks n).length ≤ ks.length + 1:=by unfold addK;split <;> simp
theorem zho:∀ (rs:List Rn) {ks:List Int},ks.Nodup→(zen ks rs).Nodup
 | [],_,h=>h
 | r :: rs,_,h=>zho rs (zl1 h)
theorem zkp:∀ (rs:List Rn) {ks:List Int} {k:Int},k ∈ zen ks rs↔k ∈ ks∨∃ r ∈ rs,r.1=k
 | [],ks,k=>by simp [zen]
 | r :: rs,ks,k=>by
  show k ∈ zen (addK ks r.1) rs↔_
  rw [zkp rs,zlP]
  simp only [List.mem_cons,exists_eq_or_imp]
  constructor
  ·rintro ((h | h) | h)
   ·exact .inl h
   ·exact .inr (.inl h.symm)
   ·exact .inr (.inr h)
  ·rintro (h | h | h)
   ·exact .inl (.inl h)
   ·exact .inl (.inr h.symm)
   ·exact .inr h
theorem zhr:∀ (rs:List Rn) (ks:List Int),(zen ks rs).length ≤ ks.length + rs.length
 | [],ks=>by simp [zen]
 | r :: rs,ks=>by
  have h1:=zhr rs (addK ks r.1)
  have h2:=zll ks r.1
  show (zen (addK ks r.1) rs).length ≤ _
  simp only [List.length_cons]
  omega
end M
namespace M
open PySem L2 V2
theorem zcE (r:Rn) (rs:List Rn) (x:Int):und (r :: rs) x=(if r.1 < x then r.2 else 0) + und rs x∧upt (r :: rs) x=(if r.1 ≤ x then r.2 else 0) + upt rs x:=⟨rfl,rfl⟩
def Tn (R:List Rn):Prop:=∀ r ∈ R,0 ≤ r.2
theorem Tn.tail {r:Rn} {R:List Rn} (h:Tn (r :: R)):Tn R:=fun q hq=>h q (List.mem_cons_of_mem _ hq)
theorem Tn.head {r:Rn} {R:List Rn} (h:Tn (r :: R)):0 ≤ r.2:=h r (List.mem_cons_self ..)
theorem zki:∀ {R:List Rn},Tn R→∀ x,0 ≤ und R x
 | [],_,_=>by simp [und]
 | r :: R,h,x=>by
  rw [(zcE r R x).1]
  have:=zki h.tail x
  have:=h.head
  split <;> omega
theorem zlE:∀ {R:List Rn},Tn R→∀ {x y:Int},x ≤ y→und R x ≤ und R y
 | [],_,_,_,_=>by simp [und]
 | r :: R,h,x,y,l=>by
  rw [(zcE r R x).1,(zcE r R y).1]
  have:=zlE h.tail l
  have:=h.head
  split <;> split <;> omega
theorem zlG:∀ {R:List Rn},Tn R→∀ {x y:Int},x ≤ y→upt R x ≤ upt R y
 | [],_,_,_,_=>by simp [upt]
 | r :: R,h,x,y,l=>by
  rw [(zcE r R x).2,(zcE r R y).2]
  have:=zlG h.tail l
  have:=h.head
  split <;> split <;> omega
theorem zkD:∀ {R:List Rn},Tn R→∀ {x y:Int},x < y→upt R x ≤ und R y
 | [],_,_,_,_=>by simp [upt,und]
 | r :: R,h,x,y,l=>by
  rw [(zcE r R x).2,(zcE r R y).1]
  have:=zkD h.tail l
  have:=h.head
  split <;> split <;> omega
theorem ziQ:∀ {R:List Rn},Tn R→∀ (x:Int),und R x ≤ upt R x
 | [],_,_=>by simp [upt,und]
 | r :: R,h,x=>by
  rw [(zcE r R x).2,(zcE r R x).1]
  have:=ziQ h.tail x
  have:=h.head
  split <;> split <;> omega
theorem zdY:∀ {R:List Rn},Tn R→∀ (x:Int),upt R x ≤ whole R
 | [],_,_=>by simp [upt,whole]
 | r :: R,h,x=>by
  rw [(zcE r R x).2]
  have e:whole (r :: R)=r.2 + whole R:=by simp [whole]
  have:=zdY h.tail x
  have:=h.head
  rw [e]
  split <;> omega
def Pl (R:List Rn):Int→List E→Prop
 | _,[]=>True
 | z,e :: r=>∃ p,z < p∧und R e.1 < p∧p ≤ upt R e.1∧e.2.1 ≤ p∧p ≤ e.2.2∧Pl R p r
theorem Pl.low {R:List Rn} {z z':Int}:∀ {es:List E},Pl R z es→z' ≤ z→Pl R z' es
 | [],_,_=>trivial
 | _ :: _,⟨p,h,q⟩,l=>⟨p,by omega,q⟩
theorem Pl.sub {R:List Rn}:∀ {es fs:List E} {z:Int},es.Sublist fs→Pl R z fs→Pl R z es
 | _,_,_, .slnil,_=>trivial
 | _,_,_, .cons a s,⟨p,h,q⟩=>Pl.sub s (q.2.2.2.2.low (by omega))
 | _,_,_, .cons_cons a s,⟨p,h,q1,q2,q3,q4,q5⟩=>⟨p,h,q1,q2,q3,q4,Pl.sub s q5⟩
def NfP (es:List E):Prop:=es.Pairwise fun a b=>a.1 ≤ b.1
theorem NfP.next {e f:E} {es:List E} (h:NfP (e :: f :: es)):e.1 ≤ f.1:=(List.pairwise_cons.mp h).1 f (List.mem_cons_self ..)
structure Gd (R:List Rn) (p:Po):Prop where
 tn:Tn R
 gf:GF p.s p.l p.d p.es
 sz:p.s=whole R
 pl:Pl R 0 p.es
end M
namespace M
open PySem L2 V2
def okE (s l:Int) (n i:Nat) (p e:E):Prop:=(i=0→e.2.1=1∧e.2.2=1)∧(i + 1=n→e.2.1=s∧e.2.2=s)∧(e.2.1 ≤ e.2.2∧e.2.2 - e.2.1 ≤ l)∧(i ≠ 0→(p.1 ≤ e.1∧p.2.1 < e.2.1∧p.2.2 < e.2.2)∧zfA l p e=true)
instance (s l:Int) (n i:Nat) (p e:E):Decidable (okE s l n i p e):=by unfold okE;infer_instance
theorem zj5 (s l d:Int) (es:List E) (i:Nat) (hi:i < es.length) (Ω:Sto):zbt [encP s l d es, .int i] Ω=some (.ok (.bl (decide (okE s l es.length i (es[i - 1]'(by omega)) es[i]))),Ω):=by
 have hat:atI (encL es) (i:Int)=some (encE es[i]):=by rw [zbO,zcc,List.getElem?_eq_getElem hi];rfl
 have s1:=fun Ω=>zlv es[i] 1 Ω
 have s2:=fun Ω=>zlv es[i] s Ω
 have a1:=fun Ω=>zrb es[i] l Ω
 have b1:=fun Ω=>zoL (es[i - 1]'(by omega)) es[i] l Ω
 have hlen:(encL es).length=es.length:=by simp [encL]
 have hprev:i ≠ 0→atI (encL es) ((i:Int) - 1)=some (encE (es[i - 1]'(by omega))):=fun h=>by rw [zhc _ _ (by omega),zcc,List.getElem?_eq_getElem (by omega)];rfl
 generalize hp:es[i - 1]'(by omega)=p at b1 hprev
 generalize he:es[i]=e at hat s1 s2 a1 b1
 have hlast:((i:Int) == (es.length:Int) - 1)=decide (i + 1=es.length):=by
  by_cases h:i + 1=es.length
  ·rw [decide_eq_true h,beq_iff_eq];omega
  ·rw [decide_eq_false h,beq_eq_false_iff_ne];omega
 have hz:((i:Int) == 0)=decide (i=0):=by
  by_cases h:i=0
  ·rw [decide_eq_true h,beq_iff_eq];omega
  ·rw [decide_eq_false h,beq_eq_false_iff_ne];omega
 have res:decide (okE s l es.length i p e)=((!decide (i=0) || decide (e.2.1=1∧e.2.2=1)) && (!decide (i + 1=es.length) || decide (e.2.1=s∧e.2.2=s)) && decide (e.2.1 ≤ e.2.2∧e.2.2 - e.2.1 ≤ l) && (decide (i=0) || (decide (p.1 ≤ e.1∧p.2.1 < e.2.1∧p.2.2 < e.2.2) && zfA l p e))):=by
  unfold okE
  by_cases h0:i=0 <;> by_cases hl:i + 1=es.length <;> simp [h0,hl,Bool.and_assoc]
 rw [res]
 generalize decide (e.2.1=1∧e.2.2=1)=B1 at s1
 generalize decide (e.2.1=s∧e.2.2=s)=B2 at s2
 generalize decide (e.2.1 ≤ e.2.2∧e.2.2 - e.2.1 ≤ l)=B3 at a1
 generalize (decide (p.1 ≤ e.1∧p.2.1 < e.2.1∧p.2.2 < e.2.2) && zfA l p e)=B4 at b1
 by_cases h0:i=0
 ·rw [decide_eq_true h0] at hz ⊢
  by_cases hl:i + 1=es.length
  ·rw [decide_eq_true hl] at hlast ⊢
   cases B1 <;> cases B2 <;> cases B3 <;> simp [zbt,zdd,encP,zaz,hat,s1,s2,a1,hlen,-beq_iff_eq,-beq_eq_false_iff_ne,hlast,hz]
  ·rw [decide_eq_false hl] at hlast ⊢
   cases B1 <;> cases B3 <;> simp [zbt,zdd,encP,zaz,hat,s1,s2,a1,hlen,-beq_iff_eq,-beq_eq_false_iff_ne,hlast,hz]
 ·have hpr:=hprev h0
  rw [decide_eq_false h0] at hz ⊢
  by_cases hl:i + 1=es.length
  ·rw [decide_eq_true hl] at hlast ⊢
   cases B2 <;> cases B3 <;> cases B4 <;> simp [zbt,zdd,encP,zaz,hat,s1,s2,a1,b1,hpr,hlen,-beq_iff_eq,-beq_eq_false_iff_ne,hlast,hz]
  ·rw [decide_eq_false hl] at hlast ⊢
   cases B3 <;> cases B4 <;> simp [zbt,zdd,encP,zaz,hat,s1,s2,a1,b1,hpr,hlen,-beq_iff_eq,-beq_eq_false_iff_ne,hlast,hz]
end M
namespace M
open PySem L2 V2
theorem ztW (s l:Int) (n i:Nat) (pn pa pb en ea eb:Int):decide (okE s l n i (pn,pa,pb) (en,ea,eb))=((!decide (i=0) || (ea == 1 && eb == 1)) && (!decide (i + 1=n) || (ea == s && eb == s)) && (decide (ea ≤ eb) && decide (eb - ea ≤ l)) && (decide (i=0) || ((decide (pn ≤ en) && decide (pa < ea) && decide (pb < eb)) && zfA l (pn,pa,pb) (en,ea,eb)))):=by
 have e0:∀ a b c d':Int,(a == c && b == d')=decide (a=c∧b=d'):=fun a b c d'=>by by_cases h1:a=c <;> by_cases h2:b=d' <;> simp [h1,h2]
 rw [e0,e0]
 unfold okE
 by_cases h0:i=0 <;> by_cases hl:i + 1=n <;> simp [h0,hl,Bool.and_assoc]
end M
namespace M
open PySem L2 V2
theorem zkI (ok:Sto→Prop) (hok:∀ Ω,ok Ω) (L:A) (Ω:Sto):∀ (rs:List Rn) (ks:List Int) (f:Int→Int) (x y:Option A),ks.length + rs.length ≤ 1000→(∀ n,n ∉ ks→f n=0) →
  ∃ x' y',fFor ok (zcR 2 (zat (gN 2) (zat (gN 3) zcU))) zd2 (zaf rs) [some L,some (.cel Ω.length),x,y] (Ω ++ [.dct (zcC ks f)])
   = some (.nx,[some L,some (.cel Ω.length),x',y'],Ω ++ [.dct (zcC (zen ks rs) fun k=>f k + tot rs k)]):=by
 intro rs
 induction rs with
 | nil =>
  intro ks f x y _ _
  refine ⟨x,y,?_⟩
  have e:(fun k=>f k + tot [] k)=f:=by funext k;simp [tot]
  simp only [zaf,List.map_nil,zhd (hok _),zen,List.foldl_nil,e]
 | cons r rs ih =>
  intro ks f x y hl hf
  simp only [List.length_cons] at hl
  have hla:=zll ks r.1
  let g:Int→Int:=fun k=>if k=r.1 then f r.1 + r.2 else f k
  obtain ⟨x',y',q⟩:=ih (addK ks r.1) g (some (.int r.1)) (some (.int r.2)) (by omega) (fun n hn=>by
   rw [zlP] at hn
   have h1:n ∉ ks:=fun z=>hn (.inl z)
   have h2:¬ n=r.1:=fun z=>hn (.inr z)
   simp only [g,h2,if_false,hf n h1])
  refine ⟨x',y',?_⟩
  have hc:zfQ (Ω ++ [.dct (zcC ks f)]) (.cel Ω.length)=some (Ω.length,zcC ks f):=zfW (by simp)
  have hd:isD (Ω ++ [.dct (zcC ks f)]) (.cel Ω.length):=⟨_,_,hc⟩
  have hv:(valA (zcC ks f) (.inl r.1)).getD (.int 0) = .int (f r.1):=by
   rw [zmA]
   by_cases h:r.1 ∈ ks
   ·simp [h]
   ·simp [h,hf _ h]
  have hp:putA (zcC ks f) (.inl r.1) (.int (f r.1 + r.2))=zcC (addK ks r.1) g:=by
   have:=zqf ks f g r.1 fun k _ hk=>by simp [g,hk]
   simpa [g] using this
  have hz:(zcC ks f).length < sizeLine:=by rw [sizeLine_eq];simp [zcC];omega
  have st:zd2 [some L,some (.cel Ω.length),some (.int r.1),some (.int r.2)] (Ω ++ [.dct (zcC ks f)])=some (.nx,[some L,some (.cel Ω.length),some (.int r.1),some (.int r.2)],Ω ++ [.dct (zcC (addK ks r.1) g)]):=by
   simp [zd2,hd,hc,keyA,hv,hz,hp]
  show fFor ok _ _ (encT r :: zaf rs) _ _=_
  rw [zbb (hok _) (ρ0:=[some L,some (.cel Ω.length),some (.int r.1),some (.int r.2)]) (Ω0:=Ω ++ [.dct (zcC ks f)]) (by simp [encT]) st,q]
  have e:(fun k=>g k + tot rs k)=fun k=>f k + tot (r :: rs) k:=by
   funext k
   simp only [g,tot,List.map_cons,List.sum_cons]
   by_cases h:k=r.1
   ·subst h;simp;omega
   ·have h':¬ r.1=k:=fun z=>h z.symm
    simp [h,h']
  rw [e]
  rfl
def pkd (rs:List Rn):List Rn:=(sortI (zen [] rs)).map fun k=>(k,tot rs k)
theorem zkH (ks:List Int) (f:Int→Int):intKeys (zcC ks f)=some ks:=by
 induction ks with
 | nil=>rfl
 | cons k ks ih =>
  simp only [zcC,List.map_cons,intKeys] at ih ⊢
  rw [ih];rfl
theorem zoO (rs:List Rn) (hl:rs.length ≤ 63) (Ω:Sto):zg1 [.lst (zaf rs)] Ω=some (.ok (.lst (zaf (pkd rs))),Ω):=by
 obtain ⟨x',y',q⟩:=zkI (fun Ω'=>zaF Ω' (.lst (zaf rs))=some (zaf rs)) (fun _=>rfl) (.lst (zaf rs)) Ω rs [] (fun _=>0) none none (by simp;omega) (fun _ _=>rfl)
 simp only [Int.zero_add] at q
 have hkl:=zhr rs []
 simp only [List.length_nil,Nat.zero_add] at hkl
 generalize hks:zen [] rs=ks at q hkl
 have hc:∀ Δ,zfQ (Ω ++ .dct (zcC ks fun k=>tot rs k) :: Δ) (.cel Ω.length)=some (Ω.length,zcC ks fun k=>tot rs k):=fun Δ=>zfW (by simp)
 have hc0:=hc []
 have sl:=zdL ks
 have hk2:ks.length < 64:=by omega
 have hsz:ks.length ≤ sizeLine:=by rw [sizeLine_eq];omega
 have comp:zhU [some (.lst (zaf rs)),some (.cel Ω.length),x',y'] (Ω ++ [.dct (zcC ks fun k=>tot rs k)])=some (.ok (.lst (zaf (pkd rs))),Ω ++ [.dct (zcC ks fun k=>tot rs k)]):=by
  have eF:((sortI ks).map A.int).filterMap (fun a=>match a with | .int k=>some (encT (k,tot rs k)) | _=>none)=zaf (pkd rs):=by
   simp only [List.filterMap_map,zaf,pkd,hks,List.map_map]
   rw [← List.filterMap_eq_map]
   rfl
  rw [← eF]
  refine zgW (S:=srcOf (.lst ((sortI ks).map A.int)) ((sortI ks).map A.int)) _ (fun ρ=>∃ v,ρ=[v,some (.cel Ω.length)]) (by simp [hc0,zkH,hk2,sl]) (fun _=>rfl) ⟨none,rfl⟩ (by simp [sl];omega) ?_ (by
   show ClL _ (List.filterMap _ ((sortI ks).map A.int));rw [eF];exact zpE _ _)
  rintro x hx ρ ⟨v,rfl⟩ ys
  obtain ⟨k,hk,rfl⟩:=List.mem_map.mp hx
  have hkm:k ∈ ks:=(sortI_perm ks).mem_iff.mp hk
  have h2:(2:Nat) ≤ sizeLine:=by decide
  have hv:valA (zcC ks fun k=>tot rs k) (.inl k)=some (.int (tot rs k)):=by rw [zmA,if_pos hkm]
  refine ⟨[some (.int k),some (.cel Ω.length)],⟨_,rfl⟩,by simp, .inl ⟨_,rfl,rfl,?_⟩⟩
  have hc1:=hc [.lst ys]
  simp [hc1,keyA,hv,h2,encT]
 show trim Ω (outR (zgV [some (.lst (zaf rs)),none,none,none] Ω))=_
 have e:zgV [some (.lst (zaf rs)),none,none,none] Ω=some (.ret (.lst (zaf (pkd rs))),[some (.lst (zaf rs)),some (.cel Ω.length),x',y'],Ω ++ [.dct (zcC ks fun k=>tot rs k)]):=by
  unfold zgV
  rw [zak (ρ1:=[some (.lst (zaf rs)),some (.cel Ω.length),none,none]) (Ω':=Ω ++ [.dct []]) (by simp)]
  rw [zak (ρ1:=[some (.lst (zaf rs)),some (.cel Ω.length),x',y']) (Ω':=Ω ++ [.dct (zcC ks fun k=>tot rs k)]) (by rw [forO (S:=srcOf (.lst (zaf rs)) (zaf rs)) (Ω':=Ω ++ [.dct []]) (by simp)];exact q)]
  simp [comp]
 rw [e]
 simp only [outR]
 exact zeg (by simp only [Cl];exact zpE _ _)
end M
namespace M
open PySem L2 V2
def sumR (ps:List Rn):Int:=(ps.map (·.2)).sum
theorem zne (m t:Int):∀ {ks:List Int},ks.Nodup→(ks.map fun k=>if m=k then t else 0).sum=if m ∈ ks then t else 0
 | [],_=>by simp
 | k :: ks,h=>by
  obtain ⟨h1,h2⟩:=List.nodup_cons.mp h
  simp only [List.map_cons,List.sum_cons,zne m t h2]
  by_cases e:m=k
  ·subst e;simp [h1]
  ·simp [e]
theorem zlr (f g:Int→Int):∀ ks:List Int,(ks.map fun k=>f k + g k).sum=(ks.map f).sum + (ks.map g).sum
 | []=>by simp
 | k :: ks=>by simp only [List.map_cons,List.sum_cons,zlr f g ks];omega
theorem zlM (r:Rn) (rs:List Rn) (k:Int):tot (r :: rs) k=(if r.1=k then r.2 else 0) + tot rs k:=by simp [tot]
theorem zlJ:∀ ks:List Int,(ks.map fun _=>(0:Int)).sum=0
 | []=>rfl
 | _ :: ks=>by simp only [List.map_cons,List.sum_cons,zlJ ks];rfl
theorem zmS (P:Int→Prop) [DecidablePred P] {ps:List Int} (hn:ps.Nodup):∀ (rs:List Rn),(∀ r ∈ rs,(r.1 ∈ ps↔P r.1))→(ps.map (tot rs)).sum=(rs.map fun r=>if P r.1 then r.2 else 0).sum
 | [],_=>by
  have:tot []=fun _=>(0:Int):=by funext k;simp [tot]
  rw [this,zlJ];rfl
 | r :: rs,h=>by
  have e:(ps.map (tot (r :: rs)))=ps.map fun k=>(if r.1=k then r.2 else 0) + tot rs k:=List.map_congr_left fun k _=>zlM r rs k
  rw [e,zlr,zne _ _ hn,zmS P hn rs fun q hq=>h q (List.mem_cons_of_mem _ hq)]
  have:=h r (List.mem_cons_self ..)
  simp only [List.map_cons,List.sum_cons]
  by_cases hm:r.1 ∈ ps
  ·rw [if_pos hm,if_pos (this.mp hm)]
  ·rw [if_neg hm,if_neg fun z=>hm (this.mpr z)]
theorem zn1 (rs:List Rn):(sortI (zen [] rs)).Pairwise (· < ·):=by
 have h1:=zi6 (zen [] rs)
 have h2:(sortI (zen [] rs)).Nodup:=(sortI_perm _).nodup_iff.mpr (zho rs List.nodup_nil)
 exact (List.Pairwise.and h1 h2).imp fun ⟨a,b⟩=>by omega
theorem mem_keys (rs:List Rn) (k:Int):k ∈ sortI (zen [] rs)↔∃ r ∈ rs,r.1=k:=by
 rw [(sortI_perm _).mem_iff,zkp];simp
theorem zrc (rs:List Rn) (ks:List Int):sumR (ks.map fun k=>(k,tot rs k))=(ks.map (tot rs)).sum:=by
 simp [sumR,List.map_map];rfl
theorem zps (rs:List Rn) (n':Int):upt rs n'=und rs n' + tot rs n':=by
 induction rs with
 | nil=>rfl
 | cons r rs ih =>
  simp only [upt,und,tot,List.map_cons,List.sum_cons] at ih ⊢
  rw [ih]
  by_cases a:r.1 < n'
  ·have b:r.1 ≤ n':=by omega
   have c:¬ r.1=n':=by omega
   simp only [a,b,c,if_true,if_false];omega
  ·by_cases c:r.1=n'
   ·have b:r.1 ≤ n':=by omega
    simp only [a,b,c,if_true,if_false];simp;omega
   ·have b:¬ r.1 ≤ n':=by omega
    simp only [a,b,c,if_false];omega
end M
namespace M
open PySem L2 V2
end M
namespace M
open PySem L2 V2
def bad:List Rn→Int→Nat→Option Nat
 | [],_,_=>none
 | r :: rs,acc,k=>if r.2 < 1∨1000000000 < acc + r.2 then some k else bad rs (acc + r.2) (k + 1)
theorem zfP (n:Nat) (h:n ≤ 1000):((n:Int)).natAbs.log2 < 1920:=by
 show n.log2 < 1920
 by_cases h0:n=0
 ·subst h0;decide
 ·rw [Nat.log2_lt h0]
  exact Nat.lt_of_le_of_lt h (Nat.lt_of_lt_of_le (show 1000 < 2 ^ 10 by decide) (Nat.pow_le_pow_right (by decide) (by decide)))
theorem zqz (ok:Sto→Prop) (hok:∀ Ω,ok Ω) (L:A) (Ω:Sto):∀ (rs:List Rn) (acc:Int) (k:Nat) (x y z:Option A),k + rs.length ≤ 1000→∃ ρ x' y' z',fFor ok (zcR 2 (zat (gN 2) (zat (gN 3) zcU))) za4 (zaY k (zaf rs)) [some L,some (.int acc),x,y,z] Ω
  = match bad rs acc k with | some j=>some (.exc ⟨"NoRow",[("at", .int j)]⟩,ρ,Ω) | none=>some (.nx,[some L,some (.int (acc + whole rs)),x',y',z'],Ω):=by
 intro rs
 induction rs with
 | nil=>intro acc k x y z _;exact ⟨[],x,y,z,by simp [bad,whole,zaf,zaY,fFor,hok]⟩
 | cons r rs ih =>
  intro acc k x y z hk
  simp only [List.length_cons] at hk
  have hl:k.log2 < 1920:=zfP k (by omega)
  by_cases h:r.2 < 1∨1000000000 < acc + r.2
  ·refine ⟨[some L,some (.int (acc + r.2)),some (.int k),some (encT r),some (.int r.2)],x,y,z,?_⟩
   simp only [bad,h,if_true]
   refine zhb (hok Ω) (ρ0:=[some L,some (.int acc),some (.int k),some (encT r),z]) (Ω0:=Ω) (by simp [encT]) ?_
   by_cases h1:r.2 < 1
   ·simp [za4,encT,h1,hl]
   ·have h2:1000000000 < acc + r.2:=h.resolve_left h1
    simp [za4,encT,h1,h2,hl]
  ·obtain ⟨ρ,x',y',z',q⟩:=ih (acc + r.2) (k + 1) (some (.int k)) (some (encT r)) (some (.int r.2)) (by omega)
   refine ⟨ρ,x',y',z',?_⟩
   simp only [bad,h,if_false,whole,List.map_cons,List.sum_cons]
   have h1:¬ r.2 < 1:=fun z=>h (.inl z)
   have h2:¬ 1000000000 < acc + r.2:=fun z=>h (.inr z)
   rw [← Int.add_assoc]
   simp only [whole] at q
   rw [← q]
   exact zbb (hok Ω) (ρ0:=[some L,some (.int acc),some (.int k),some (encT r),z]) (Ω0:=Ω) (by simp [encT]) (by simp [za4,encT,h1,h2])
theorem zlZ (rs:List Rn) (hl:rs.length ≤ 1000) (Ω:Sto):ze7 [.lst (zaf rs)] Ω=match bad rs 0 0 with | some j=>some (.exc ⟨"NoRow",[("at", .int j)]⟩,Ω) | none=>some (.ok (.int (whole rs)),Ω):=by
 obtain ⟨ρ,x',y',z',q⟩:=zqz (fun Ω'=>zaH Ω' (.lst (zaf rs))=some (zaf rs)) (fun _=>rfl) (.lst (zaf rs)) Ω rs 0 0 none none none (by omega)
 show trim Ω (outR (zfi [some (.lst (zaf rs)),none,none,none,none] Ω))=_
 have e0:zfi [some (.lst (zaf rs)),none,none,none,none] Ω=sSeq (sFor (zjp (vVar 0)) (zcR 2 (zat (gN 2) (zat (gN 3) zcU))) za4) (sRet (vVar 1)) [some (.lst (zaf rs)),some (.int 0),none,none,none] Ω:=by
  unfold zfi
  rw [zak (ρ1:=[some (.lst (zaf rs)),some (.int 0),none,none,none]) (Ω':=Ω) (by simp)]
 rw [e0]
 have e1:sFor (zjp (vVar 0)) (zcR 2 (zat (gN 2) (zat (gN 3) zcU))) za4 [some (.lst (zaf rs)),some (.int 0),none,none,none] Ω=fFor (enumSrc (.lst (zaf rs)) (zaf rs)).ok (zcR 2 (zat (gN 2) (zat (gN 3) zcU))) za4 (zaY 0 (zaf rs)) [some (.lst (zaf rs)),some (.int 0),none,none,none] Ω:=by
  rw [forO (S:=enumSrc (.lst (zaf rs)) (zaf rs)) (Ω':=Ω) (by simp)];rfl
 rw [show (enumSrc (.lst (zaf rs)) (zaf rs)).ok=fun Ω'=>zaH Ω' (.lst (zaf rs))=some (zaf rs) from rfl,q] at e1
 cases hb:bad rs 0 0 with
 | some j =>
  rw [hb] at e1
  have:sSeq (sFor (zjp (vVar 0)) (zcR 2 (zat (gN 2) (zat (gN 3) zcU))) za4) (sRet (vVar 1)) [some (.lst (zaf rs)),some (.int 0),none,none,none] Ω=some (.exc ⟨"NoRow",[("at", .int j)]⟩,ρ,Ω):=by
   unfold sSeq;rw [e1]
  rw [this]
  simp [trim,Cl]
 | none=>rw [hb] at e1;rw [zak e1];simp
end M
namespace M
open PySem L2 V2
def oks (s l:Int) (es:List E) (i:Nat):Bool:=if h:i < es.length then decide (okE s l es.length i (es[i - 1]'(by omega)) es[i]) else true
def fbF (f:Nat→Bool):Nat→Nat→Option Nat
 | 0,_=>none
 | m + 1,i=>if f i then fbF f m (i + 1) else some i
def zhX (s l d:Int) (es:List E):Bool:=!(decide (s < 0) || decide (l < 0) || decide (d < 0)) && (decide (s=0) == es.isEmpty)
def fbP (s l d:Int) (es:List E):Option Nat:=if zhX s l d es then fbF (oks s l es) es.length 0 else some 0
def intsFrom (i m:Nat):List A:=(List.range' i m).map fun (j:Nat)=>A.int (j:Int)
theorem zlt (n:Nat):((List.range n).map fun (i:Nat)=>A.int (0 + (i:Int)))=intsFrom 0 n:=by
 unfold intsFrom;rw [List.range_eq_range'];simp
theorem zrm (s l d:Int) (es:List E) (hn:es.length ≤ 1000) (Ω:Sto):∀ (m i:Nat) (x:Option A),i + m=es.length→∃ ρ ρ',fFor (fun _=>True) (gN 1) za0 (intsFrom i m) [some (encP s l d es),x] Ω
  = match fbF (oks s l es) m i with | some j=>some (.exc ⟨"NoPouch",[("at", .int j)]⟩,ρ,Ω) | none=>some (.nx,ρ',Ω):=by
 intro m
 induction m with
 | zero=>intro i x _;exact ⟨[],_,by simp [intsFrom,fbF,zhd];rfl⟩
 | succ m ih =>
  intro i x h
  have hi:i < es.length:=by omega
  have g:=zj5 s l d es i hi Ω
  have ho:oks s l es i=decide (okE s l es.length i (es[i - 1]'(by omega)) es[i]):=by unfold oks;rw [dif_pos hi]
  rw [← ho] at g
  have hl:i.log2 < 1920:=zfP i (by omega)
  have e:intsFrom i (m + 1) = .int (i:Int) :: intsFrom (i + 1) m:=by simp [intsFrom,List.range'_succ]
  rw [e]
  cases hk:oks s l es i with
  | true =>
   rw [hk] at g
   obtain ⟨ρ,ρ',q⟩:=ih (i + 1) (some (.int i)) (by omega)
   refine ⟨ρ,ρ',?_⟩
   simp only [fbF,hk,if_true]
   rw [← q]
   exact zbb (ok:=fun _=>True) trivial (ρ0:=[some (encP s l d es),some (.int i)]) (Ω0:=Ω) (by simp) (by simp [za0,zaz,g])
  | false =>
   rw [hk] at g
   refine ⟨[some (encP s l d es),some (.int i)],[],?_⟩
   simp only [fbF,hk]
   exact zhb (ok:=fun _=>True) trivial (ρ0:=[some (encP s l d es),some (.int i)]) (Ω0:=Ω) (by simp) (by simp [za0,zaz,g,hl])
end M
namespace M
open PySem L2 V2
theorem zhM (s l d:Int) (es:List E) (Ω:Sto):zbj [encP s l d es] Ω=some (.ok (.bl (zhX s l d es)),Ω):=by
 have hlen:((es.length:Int) == 0)=es.isEmpty:=by
  cases es with
  | nil=>rfl
  | cons x r=>rw [beq_eq_false_iff_ne.mpr (by simp;omega)];rfl
 have hs:(s == 0)=decide (s=0):=by by_cases h:s=0 <;> simp [h]
 unfold zhX
 by_cases h1:s < 0
 ·simp [zbj,zdB,encP,h1]
 by_cases h2:l < 0
 ·simp [zbj,zdB,encP,h1,h2]
 by_cases h3:d < 0
 ·simp [zbj,zdB,encP,h1,h2,h3]
 ·simp [zbj,zdB,encP,h1,h2,h3,-beq_iff_eq,-beq_eq_false_iff_ne,hlen,hs]
def fbA (s l d:Int) (es:List E):A:=match fbP s l d es with | some j => .int j | none => .non
end M
namespace M
open PySem L2 V2
theorem zgq {f g:MS} {ρ ρ1:Ev} {Ω Ω':Sto} {x:Exc} (h:f ρ Ω=some (.exc x,ρ1,Ω')):sSeq f g ρ Ω=some (.exc x,ρ1,Ω'):=by unfold sSeq;rw [h]
theorem ze9 {x:Exc} {Ω:Sto}:trim Ω (some (.exc x,Ω))=some (.exc x,Ω):=by simp only [trim];split <;> rfl
theorem log0 (j:Int) (h:j=0):j.natAbs.log2 < 1920:=by
 have:=zfP j.natAbs (by omega)
 rwa [Int.natAbs_natCast] at this
theorem znz (s l d:Int) (es:List E) (j:Int) (hj:j.natAbs.log2 < 1920) (hh:zhX s l d es=false) (Ω:Sto):sIf (zgR (zay (vCl (zaz 1 zbj) (zad (vVar 0) a0)))) (zft "NoPouch" "at" (zad (cI j) a0)) sNx [some (encP s l d es),none] Ω=some (.exc ⟨"NoPouch",[("at", .int j)]⟩,[some (encP s l d es),none],Ω):=by
 have g:=zhM s l d es Ω
 rw [hh] at g
 simp [zaz,g,hj]
theorem zmm (s l d:Int) (es:List E) (f:MS) (hh:zhX s l d es=true) (Ω:Sto):sIf (zgR (zay (vCl (zaz 1 zbj) (zad (vVar 0) a0)))) f sNx [some (encP s l d es),none] Ω=some (.nx,[some (encP s l d es),none],Ω):=by
 have g:=zhM s l d es Ω
 rw [hh] at g
 simp [zaz,g]
theorem zqG (s l d:Int) (es:List E) (hn:es.length ≤ 1000) (Ω:Sto):zbP [encP s l d es] Ω=match fbP s l d es with | some j=>some (.exc ⟨"NoPouch",[("at", .int j)]⟩,Ω) | none=>some (.ok (.bl true),Ω):=by
 show trim Ω (outR (zdw [some (encP s l d es),none] Ω))=_
 have hlen:(encL es).length=es.length:=by simp [encL]
 unfold fbP zdw
 cases hh:zhX s l d es with
 | false =>
  have e:=znz s l d es 0 (log0 0 rfl) hh Ω
  rw [zgq e]
  exact ze9
 | true =>
  rw [zak (zmm s l d es _ hh Ω)]
  obtain ⟨ρ,ρ',q⟩:=zrm s l d es hn Ω es.length 0 none (by omega)
  have e1:sFor (zhg (zad (vCl gLen (zad (vOp gIx (vVar 0) (cI 3)) a0)) a0)) (gN 1) za0 [some (encP s l d es),none] Ω=fFor (fun _=>True) (gN 1) za0 (intsFrom 0 es.length) [some (encP s l d es),none] Ω:=by
   rw [forO (S:=zej 0 es.length) (Ω':=Ω) (rngO (j:=(es.length:Int)) (by simp [encP,hlen]) (by unfold za6;omega))]
   rw [← zlt]
   rfl
  rw [q] at e1
  simp only [if_true]
  cases hf:fbF (oks s l es) es.length 0 with
  | some j=>rw [hf] at e1;rw [zgq e1];exact ze9
  | none=>rw [hf] at e1;rw [zak e1];simp
end M
namespace M
open PySem L2 V2
def plD:Int→List Rn→List (Key × A)
 | _,[]=>[]
 | acc,r :: rs=>(.inl r.1, .tup [.int (acc + 1), .int (acc + r.2)]) :: plD (acc + r.2) rs
theorem zog (a b:List Rn):sumR (a ++ b)=sumR a + sumR b:=by simp [sumR]
theorem zkR:∀ (as bs:List Rn) (acc:Int),plD acc (as ++ bs)=plD acc as ++ plD (acc + sumR as) bs
 | [],bs,acc=>by simp [plD,sumR]
 | a :: as,bs,acc=>by
  have e:sumR (a :: as)=a.2 + sumR as:=by simp [sumR]
  simp only [List.cons_append,plD]
  rw [zkR as bs,e,Int.add_assoc]
theorem zfZ:∀ (as:List Rn) (acc:Int),(plD acc as).map (·.1)=as.map fun r=>(Sum.inl r.1:Key)
 | [],_=>rfl
 | a :: as,acc=>by simp only [plD,List.map_cons];rw [zfZ as]
theorem zq0 (as:List Rn) (acc:Int):(plD acc as).length=as.length:=by
 have:=congrArg List.length (zfZ as acc)
 simpa using this
theorem zrr {kvs:List (Key × A)} {k:Key} {a:A} (h:k ∉ kvs.map (·.1)):putA kvs k a=kvs ++ [(k,a)]:=by
 unfold putA
 rw [if_neg]
 intro hc
 rw [List.any_eq_true] at hc
 obtain ⟨x,hx,e⟩:=hc
 exact h (List.mem_map.mpr ⟨x,hx,by simpa using e⟩)
theorem zhv (ok:Sto→Prop) (hok:∀ Ω,ok Ω) (L:A) (Ω:Sto):∀ (rest pre:List Rn) (x y:Option A),((pre ++ rest).map (·.1)).Pairwise (· < ·)→pre.length + rest.length ≤ 1000 →
  ∃ x' y',fFor ok (zcR 2 (zat (gN 3) (zat (gN 4) zcU))) zdU (zaf rest) [some L,some (.cel Ω.length),some (.int (sumR pre)),x,y] (Ω ++ [.dct (plD 0 pre)])
   = some (.nx,[some L,some (.cel Ω.length),some (.int (sumR (pre ++ rest))),x',y'],Ω ++ [.dct (plD 0 (pre ++ rest))])
 | [],pre,x,y,_,_=>⟨x,y,by simp [zaf,fFor,hok]⟩
 | r :: rest,pre,x,y,hp,hl=>by
  have e0:pre ++ r :: rest=(pre ++ [r]) ++ rest:=by simp
  have hnew:(Sum.inl r.1:Key) ∉ (plD 0 pre).map (·.1):=by
   rw [zfZ]
   intro hc
   obtain ⟨q,hq,e⟩:=List.mem_map.mp hc
   rw [List.map_append,List.pairwise_append] at hp
   have:=hp.2.2 q.1 (List.mem_map_of_mem hq) r.1 (by simp)
   have e':q.1=r.1:=by injection e
   omega
  have hput:putA (plD 0 pre) (.inl r.1) (.tup [.int (sumR pre + 1), .int (sumR pre + r.2)])=plD 0 (pre ++ [r]):=by
   rw [zrr hnew,zkR];simp [plD]
  obtain ⟨x',y',q⟩:=zhv ok hok L Ω rest (pre ++ [r]) (some (.int r.1)) (some (.int r.2)) (by rw [← e0];exact hp) (by simp at hl ⊢;omega)
  refine ⟨x',y',?_⟩
  rw [e0,← q]
  have hc:zfQ (Ω ++ [.dct (plD 0 pre)]) (.cel Ω.length)=some (Ω.length,plD 0 pre):=zfW (by simp)
  have hz:(plD 0 pre).length < sizeLine:=by rw [zq0,sizeLine_eq];simp only [List.length_cons] at hl;omega
  have h2:(2:Nat) ≤ sizeLine:=by decide
  have es:sumR (pre ++ [r])=sumR pre + r.2:=by rw [zog];simp [sumR]
  have e:zaf (r :: rest)=encT r :: zaf rest:=rfl
  rw [e,es]
  exact zbb (hok _) (ρ0:=[some L,some (.cel Ω.length),some (.int (sumR pre)),some (.int r.1),some (.int r.2)]) (Ω0:=Ω ++ [.dct (plD 0 pre)]) (by simp [encT]) (by simp [zdU,hc,keyA,hz,hput,h2])
theorem zsv (rs:List Rn):((pkd rs).map (·.1)).Pairwise (· < ·):=by
 have e:(pkd rs).map (·.1)=sortI (zen [] rs):=by unfold pkd;rw [List.map_map];exact List.map_id _
 rw [e];exact zn1 rs
theorem zrh (rs:List Rn):(pkd rs).length ≤ rs.length:=by
 have hkl:=zhr rs []
 unfold pkd
 rw [List.length_map,zdL]
 simpa using hkl
theorem zk4 (rs:List Rn) (hl:rs.length ≤ 63) (Ω:Sto):zee [.lst (zaf rs)] Ω=some (.ok (.cel Ω.length),Ω ++ [.dct (plD 0 (pkd rs))]):=by
 have hp:=fun Ω=>zoO rs hl Ω
 have hkl:=zrh rs
 obtain ⟨x',y',q⟩:=zhv (fun Ω'=>zaF Ω' (.lst (zaf (pkd rs)))=some (zaf (pkd rs))) (fun _=>rfl) (.lst (zaf rs)) Ω (pkd rs) [] none none (by simpa using zsv rs) (by simp;omega)
 simp only [List.nil_append] at q
 have s0:sumR []=0:=rfl
 rw [s0] at q
 have p0:plD 0 []=[]:=rfl
 rw [p0] at q
 show trim Ω (outR (zd8 [some (.lst (zaf rs)),none,none,none,none] Ω))=_
 have e:zd8 [some (.lst (zaf rs)),none,none,none,none] Ω=some (.ret (.cel Ω.length),[some (.lst (zaf rs)),some (.cel Ω.length),some (.int (sumR (pkd rs))),x',y'],Ω ++ [.dct (plD 0 (pkd rs))]):=by
  unfold zd8
  rw [zak (ρ1:=[some (.lst (zaf rs)),some (.cel Ω.length),none,none,none]) (Ω':=Ω ++ [.dct []]) (by simp)]
  rw [zak (ρ1:=[some (.lst (zaf rs)),some (.cel Ω.length),some (.int 0),none,none]) (Ω':=Ω ++ [.dct []]) (by simp)]
  rw [zak (ρ1:=[some (.lst (zaf rs)),some (.cel Ω.length),some (.int (sumR (pkd rs))),x',y']) (Ω':=Ω ++ [.dct (plD 0 (pkd rs))]) (by
   rw [forO (S:=srcOf (.lst (zaf (pkd rs))) (zaf (pkd rs))) (Ω':=Ω ++ [.dct []]) (by simp [zaz,hp])]
   exact q)]
  simp
 rw [e]
 simp [trim,Cl]
theorem zqk {as bs:List (Key × A)} {k:Key} (h:k ∉ as.map (·.1)):valA (as ++ bs) k=valA bs k:=by
 unfold valA
 rw [List.find?_append]
 have:as.find? (fun kv=>decide (kv.1=k))=none:=by
  rw [List.find?_eq_none]
  intro x hx e
  exact h (List.mem_map.mpr ⟨x,hx,by simpa using e⟩)
 rw [this];rfl
theorem zsK {R:List Rn} (n:Int) (h:n ∈ R.map (·.1)):valA (plD 0 (pkd R)) (.inl n)=some (.tup [.int (und R n + 1), .int (upt R n)]):=by
 have hm:n ∈ sortI (zen [] R):=by
  rw [mem_keys];obtain ⟨r,hr,e⟩:=List.mem_map.mp h;exact ⟨r,hr,e⟩
 obtain ⟨ps,qs,eks⟩:=List.append_of_mem hm
 have hk:=zn1 R
 rw [eks] at hk
 have hmem:∀ k,k ∈ ps ++ n :: qs↔∃ r ∈ R,r.1=k:=fun k=>by rw [← eks];exact mem_keys R k
 obtain ⟨p1,p2,p3⟩:=List.pairwise_append.mp hk
 obtain ⟨p4,p5⟩:=List.pairwise_cons.mp p2
 have nd:ps.Nodup:=p1.imp fun z=>Int.ne_of_lt z
 have hu:sumR (ps.map fun k=>(k,tot R k))=und R n:=by
  rw [zrc]
  refine zmS (fun k=>k < n) nd R fun r hr=>⟨fun z=>p3 _ z _ (List.mem_cons_self ..),fun z=>?_⟩
  rcases List.mem_append.mp ((hmem r.1).mpr ⟨r,hr,rfl⟩) with y | y
  ·exact y
  ·rcases List.mem_cons.mp y with y | y
   ·omega
   ·have:=p4 _ y;omega
 have ht:=zps R n
 have e:pkd R=(ps.map fun k=>(k,tot R k)) ++ (n,tot R n) :: (qs.map fun k=>(k,tot R k)):=by
  unfold pkd;rw [eks];simp
 rw [e,zkR,hu,zqk]
 ·simp only [plD,valA,List.find?_cons,decide_true,Option.map_some,Int.zero_add]
  rw [ht]
 ·rw [zfZ]
  intro hc
  obtain ⟨q,hq,e1⟩:=List.mem_map.mp hc
  obtain ⟨k,hk',e2⟩:=List.mem_map.mp hq
  have e3:q.1=n:=by injection e1
  have:=p3 _ hk' n (List.mem_cons_self ..)
  rw [← e2] at e3
  simp only at e3
  omega
end M
namespace M
open PySem L2 V2
def wrF (R:List Rn):Nat→Int→List E→Option Nat
 | _,_,[]=>none
 | k,z,e :: es=>if min e.2.2 (upt R e.1) < max (z + 1) (max e.2.1 (und R e.1 + 1)) then some k else wrF R (k + 1) (max (z + 1) (max e.2.1 (und R e.1 + 1))) es
theorem zsu {R:List Rn} (n:Int) (h:n ∉ R.map (·.1)):valA (plD 0 (pkd R)) (.inl n)=none:=by
 unfold valA
 have:(plD 0 (pkd R)).find? (fun kv=>decide (kv.1=(Sum.inl n:Key)))=none:=by
  rw [List.find?_eq_none]
  intro x hx e
  have e:x.1=Sum.inl n:=by simpa using e
  have hm:(Sum.inl n:Key) ∈ (plD 0 (pkd R)).map (·.1):=List.mem_map.mpr ⟨x,hx,e⟩
  rw [zfZ] at hm
  obtain ⟨q,hq,eq⟩:=List.mem_map.mp hm
  have eq:q.1=n:=by injection eq
  have hk:q.1 ∈ (pkd R).map (·.1):=List.mem_map_of_mem hq
  have ek:(pkd R).map (·.1)=sortI (zen [] R):=by unfold pkd;rw [List.map_map];exact List.map_id _
  rw [ek,mem_keys] at hk
  obtain ⟨r,hr,er⟩:=hk
  exact h (List.mem_map.mpr ⟨r,hr,by rw [er,eq]⟩)
 rw [this];rfl
theorem zpv {n:Int}:∀ {R:List Rn},n ∉ R.map (·.1)→tot R n=0
 | [],_=>by simp [tot]
 | r :: R,h=>by
  rw [zlM,zpv fun z=>h (by simp only [List.map_cons];exact List.mem_cons_of_mem _ z)]
  have:¬ r.1=n:=fun z=>h (by rw [← z];simp)
  simp [this]
theorem zhy (ok:Sto→Prop) (L:A) (R:List Rn) (k:Nat) (Ω:Sto) (hok:ok Ω) (hD:Ω[k]? = some (.dct (plD 0 (pkd R)))):∀ (es:List E) (z:Int) (i:Nat) (x y u:Option A),i + es.length ≤ 1000 →
  ∃ ρ,fFor ok (zcR 2 (zat (gN 3) (zat (gN 4) zcU))) zaW (zaY i (encL es)) [some (.cel k),some L,some (.int z),x,y,u] Ω
   = match wrF R i z es with | some j=>some (.exc ⟨"Wrong",[("at", .int j)]⟩,ρ,Ω) | none=>some (.nx,ρ,Ω)
 | [],z,i,x,y,u,_=>⟨_,by simp [wrF,encL,zaY,fFor,hok];rfl⟩
 | e :: es,z,i,x,y,u,hl=>by
  simp only [List.length_cons] at hl
  have hlg:i.log2 < 1920:=zfP i (by omega)
  have hc:=zfW hD
  have hu:=zps R e.1
  by_cases hm:e.1 ∈ R.map (·.1)
  ·have hv:=zsK e.1 hm
   by_cases c:min e.2.2 (upt R e.1) < max (z + 1) (max e.2.1 (und R e.1 + 1))
   ·refine ⟨[some (.cel k),some L,some (.int (max (z + 1) (max e.2.1 (und R e.1 + 1)))),some (.int i),some (encE e),some (.tup [.int (und R e.1 + 1), .int (upt R e.1)])],?_⟩
    simp only [wrF,if_pos c]
    refine zhb hok (ρ0:=[some (.cel k),some L,some (.int z),some (.int i),some (encE e),u]) (Ω0:=Ω) (by simp) ?_
    by_cases c1:e.2.2 < max (z + 1) (max e.2.1 (und R e.1 + 1))
    ·simp [zaW,encE,hc,keyA,hv,c1,hlg]
    ·have c2:upt R e.1 < max (z + 1) (max e.2.1 (und R e.1 + 1)):=by omega
     simp [zaW,encE,hc,keyA,hv,c1,c2,hlg]
   ·obtain ⟨ρ,q⟩:=zhy ok L R k Ω hok hD es (max (z + 1) (max e.2.1 (und R e.1 + 1))) (i + 1) (some (.int i)) (some (encE e)) (some (.tup [.int (und R e.1 + 1), .int (upt R e.1)])) (by omega)
    refine ⟨ρ,?_⟩
    have n1:¬ e.2.2 < max (z + 1) (max e.2.1 (und R e.1 + 1)):=by omega
    have n2:¬ upt R e.1 < max (z + 1) (max e.2.1 (und R e.1 + 1)):=by omega
    simp only [wrF,if_neg c]
    rw [← q]
    exact zbb hok (ρ0:=[some (.cel k),some L,some (.int z),some (.int i),some (encE e),u]) (Ω0:=Ω) (by simp) (by simp [zaW,encE,hc,keyA,hv,n1,n2])
  ·have hv:=zsu e.1 hm
   have ht:=zpv hm
   have c:min e.2.2 (upt R e.1) < max (z + 1) (max e.2.1 (und R e.1 + 1)):=by omega
   refine ⟨[some (.cel k),some L,some (.int z),some (.int i),some (encE e),u],?_⟩
   simp only [wrF,if_pos c]
   refine zhb hok (ρ0:=[some (.cel k),some L,some (.int z),some (.int i),some (encE e),u]) (Ω0:=Ω) (by simp) ?_
   simp [zaW,encE,hc,keyA,hv,hlg]
theorem zh2 (R:List Rn) (es:List E) (hl:es.length ≤ 1000) (k:Nat) (Ω:Sto) (hD:Ω[k]? = some (.dct (plD 0 (pkd R)))):zcd [.cel k, .lst (encL es)] Ω
  = match wrF R 0 0 es with | some j=>some (.exc ⟨"Wrong",[("at", .int j)]⟩,Ω) | none=>some (.ok .non,Ω):=by
 obtain ⟨ρ,q⟩:=zhy (fun Ω'=>zaH Ω' (.lst (encL es))=some (encL es)) (.lst (encL es)) R k Ω rfl hD es 0 0 none none none (by omega)
 show trim Ω (outR (zcb [some (.cel k),some (.lst (encL es)),none,none,none,none] Ω))=_
 have e:zcb [some (.cel k),some (.lst (encL es)),none,none,none,none] Ω=match wrF R 0 0 es with | some j=>some (.exc ⟨"Wrong",[("at", .int j)]⟩,ρ,Ω) | none=>some (.nx,ρ,Ω):=by
  unfold zcb
  rw [zak (ρ1:=[some (.cel k),some (.lst (encL es)),some (.int 0),none,none,none]) (Ω':=Ω) (by simp)]
  rw [forO (S:=enumSrc (.lst (encL es)) (encL es)) (Ω':=Ω) (by simp)]
  exact q
 rw [e]
 cases wrF R 0 0 es with
 | some j=>simp [ze9]
 | none=>simp
theorem zjQ {Ω Δ:Sto} {x:Exc} (h:ClL Ω.length (x.fs.map (·.2))):trim Ω (some (.exc x,Ω ++ Δ))=some (.exc x,Ω):=by
 simp only [trim]
 rw [if_pos ⟨by simp,h⟩]
inductive Due | row (j:Nat) | pouch (j:Nat) | size | wrong (j:Nat) | good
def dueW (R:List Rn) (p:Po):Due:=match bad R 0 0 with
 | some j => .row j
 | none=>match fbP p.s p.l p.d p.es with
  | some j => .pouch j
  | none=>if p.s=whole R then (match wrF R 0 0 p.es with
   | some j => .wrong j
   | none => .good) else .size
def resW:Due→Rs A
 | .row j => .exc ⟨"NoRow",[("at", .int j)]⟩
 | .pouch j => .exc ⟨"NoPouch",[("at", .int j)]⟩
 | .size => .exc ⟨"NoSize",[]⟩
 | .wrong j => .exc ⟨"Wrong",[("at", .int j)]⟩
 | .good => .ok (.bl true)
theorem zmG (R:List Rn) (p:Po) (hl:R.length ≤ 63) (hz:p.es.length ≤ 1000) (Ω:Sto):zdu [.lst (zaf R),encQ p] Ω=some (resW (dueW R p),Ω):=by
 have a1:=fun Ω=>zlZ R (by omega) Ω
 have a2:∀ Ω,zbP [encQ p] Ω=_:=fun Ω=>zqG p.s p.l p.d p.es hz Ω
 have a3:=fun Ω=>zk4 R hl Ω
 have a4:=zh2 R p.es hz Ω.length (Ω ++ [.dct (plD 0 (pkd R))]) (by simp)
 have hsq:∀ Ω,zaF Ω (encQ p)=some [.int p.s, .int p.l, .int p.d, .lst (encL p.es)]:=fun _=>rfl
 have h1s:(1:Nat) ≤ sizeLine:=by decide
 show trim Ω (outR (zgr [some (.lst (zaf R)),some (encQ p),none] Ω))=_
 unfold zgr
 cases hb:bad R 0 0 with
 | some j =>
  rw [hb] at a1
  rw [zgq (x:=⟨"NoRow",[("at", .int j)]⟩) (ρ1:=[some (.lst (zaf R)),some (encQ p),none]) (Ω':=Ω) (by simp [zaz,a1])]
  have ed:dueW R p = .row j:=by unfold dueW;rw [hb]
  rw [ed];simp [resW,ze9]
 | none =>
  rw [hb] at a1
  rw [zak (ρ1:=[some (.lst (zaf R)),some (encQ p),some (.int (whole R))]) (Ω':=Ω) (by simp [zaz,a1])]
  cases hf:fbP p.s p.l p.d p.es with
  | some j =>
   rw [hf] at a2
   rw [zgq (x:=⟨"NoPouch",[("at", .int j)]⟩) (ρ1:=[some (.lst (zaf R)),some (encQ p),some (.int (whole R))]) (Ω':=Ω) (by simp [zaz,a2])]
   have ed:dueW R p = .pouch j:=by unfold dueW;rw [hb];simp only [];rw [hf]
   rw [ed];simp [resW,ze9]
  | none =>
   rw [hf] at a2
   rw [zak (ρ1:=[some (.lst (zaf R)),some (encQ p),some (.int (whole R))]) (Ω':=Ω) (by simp [zaz,a2])]
   by_cases hs:p.s=whole R
   ·rw [zak (ρ1:=[some (.lst (zaf R)),some (encQ p),some (.int (whole R))]) (Ω':=Ω) (by simp [hsq,hs])]
    cases hw:wrF R 0 0 p.es with
    | some j =>
     rw [hw] at a4
     rw [zgq (x:=⟨"Wrong",[("at", .int j)]⟩) (ρ1:=[some (.lst (zaf R)),some (encQ p),some (.int (whole R))]) (Ω':=Ω ++ [.dct (plD 0 (pkd R))]) (by simp [zaz,hsq,a3,a4])]
     have ed:dueW R p = .wrong j:=by unfold dueW;rw [hb];simp only [];rw [hf];simp only [];rw [if_pos hs,hw]
     rw [ed]
     simp only [outR,resW]
     exact zjQ (by simp [ClL,Cl])
    | none =>
     rw [hw] at a4
     rw [zak (ρ1:=[some (.lst (zaf R)),some (encQ p),some (.int (whole R))]) (Ω':=Ω ++ [.dct (plD 0 (pkd R))]) (by simp [zaz,hsq,a3,a4])]
     have ed:dueW R p = .good:=by unfold dueW;rw [hb];simp only [];rw [hf];simp only [];rw [if_pos hs,hw]
     rw [ed]
     have e:sRet (cB true) [some (.lst (zaf R)),some (encQ p),some (.int (whole R))] (Ω ++ [.dct (plD 0 (pkd R))])=some (.ret (.bl true),[some (.lst (zaf R)),some (encQ p),some (.int (whole R))],Ω ++ [.dct (plD 0 (pkd R))]):=by simp
     rw [e]
     simp only [zlL]
     exact zeg (by simp only [Cl])
   ·rw [zgq (x:=⟨"NoSize",[]⟩) (ρ1:=[some (.lst (zaf R)),some (encQ p),some (.int (whole R))]) (Ω':=Ω) (by simp [hsq,hs,h1s])]
    have ed:dueW R p = .size:=by unfold dueW;rw [hb];simp only [];rw [hf];simp only [];rw [if_neg hs]
    rw [ed];simp [resW,ze9]
end M
namespace M
open PySem L2 V2
def alB (s l:Int) (n i:Nat) (ea eb:Int):Bool:=(!decide (i=0) || (ea == 1 && eb == 1)) && (!decide (i + 1=n) || (ea == s && eb == s)) && (decide (ea ≤ eb) && decide (eb - ea ≤ l))
theorem znN (s l d:Int) (es:List E) (i:Nat) (hi:i < es.length) (Ω:Sto):zcu [encP s l d es, .int i] Ω=some (.ok (.bl (alB s l es.length i es[i].2.1 es[i].2.2)),Ω):=by
 have hat:atI (encL es) (i:Int)=some (encE es[i]):=by rw [zbO,zcc,List.getElem?_eq_getElem hi];rfl
 have hlen:(encL es).length=es.length:=by simp [encL]
 have h2:(2:Nat) ≤ sizeLine:=by decide
 generalize he:es[i]=e at hat
 obtain ⟨en,ea,eb⟩:=e
 have hlast:((i:Int) == (es.length:Int) - 1)=decide (i + 1=es.length):=by
  by_cases h:i + 1=es.length
  ·rw [decide_eq_true h,beq_iff_eq];omega
  ·rw [decide_eq_false h,beq_eq_false_iff_ne];omega
 have hz:((i:Int) == 0)=decide (i=0):=by
  by_cases h:i=0
  ·rw [decide_eq_true h,beq_iff_eq];omega
  ·rw [decide_eq_false h,beq_eq_false_iff_ne];omega
 have g1:=fun Ω=>zkw ea eb 1 1 Ω
 have g2:=fun Ω=>zkw ea eb s s Ω
 show zcu [encP s l d es, .int i] Ω=some (.ok (.bl (alB s l es.length i ea eb)),Ω)
 unfold alB
 generalize (ea == 1 && eb == 1)=B1 at g1
 generalize (ea == s && eb == s)=B2 at g2
 simp only [encE] at hat
 generalize decide (i=0)=Z at hz
 generalize decide (i + 1=es.length)=L at hlast
 by_cases c3:ea ≤ eb <;> cases Z <;> cases L <;> cases B1 <;> cases B2 <;> simp [zcu,zgz,encP,hat,hlen,h2,-zkw,g1,g2,-beq_iff_eq,-beq_eq_false_iff_ne,hlast,hz,c3]
def beB (l:Int) (p e:E):Bool:=(decide (p.1 ≤ e.1) && decide (p.2.1 < e.2.1) && decide (p.2.2 < e.2.2)) && zfA l p e
theorem zlU (s l d:Int) (es:List E) (i:Nat) (hi:i < es.length) (h0:i ≠ 0) (Ω:Sto):zaJ [encP s l d es, .int i] Ω=some (.ok (.bl (beB l (es[i - 1]'(by omega)) es[i])),Ω):=by
 have hat:atI (encL es) (i:Int)=some (encE es[i]):=by rw [zbO,zcc,List.getElem?_eq_getElem hi];rfl
 have hpr:atI (encL es) ((i:Int) - 1)=some (encE (es[i - 1]'(by omega))):=by rw [zhc _ _ (by omega),zcc,List.getElem?_eq_getElem (by omega)];rfl
 generalize hp:es[i - 1]'(by omega)=p at hpr
 generalize he:es[i]=e at hat
 obtain ⟨en,ea,eb⟩:=e
 obtain ⟨pn,pa,pb⟩:=p
 simp only [encE] at hat hpr
 unfold beB zfA
 by_cases c5:pn ≤ en
 ·have n5:¬ en < pn:=by omega
  by_cases c6:pa < ea
  ·have n6:¬ ea ≤ pa:=by omega
   by_cases c7:pb < eb
   ·have n7:¬ eb ≤ pb:=by omega
    by_cases c8:en=pn
    ·simp [zaJ,za3,encP,hat,hpr,c5,c6,c7,c8,n5,n6,n7]
    ·by_cases c9:eb ≤ pa + l + 1
     ·have n9:eb - pa ≤ l + 1:=by omega
      simp [zaJ,za3,encP,hat,hpr,c5,c6,c7,c8,c9,n5,n6,n7,n9]
     ·have n9:¬ eb - pa ≤ l + 1:=by omega
      simp [zaJ,za3,encP,hat,hpr,c5,c6,c7,c8,c9,n5,n6,n7,n9]
   ·have n7:eb ≤ pb:=by omega
    simp [zaJ,za3,encP,hat,hpr,c5,c6,c7,n5,n6,n7]
  ·have n6:ea ≤ pa:=by omega
   simp [zaJ,za3,encP,hat,hpr,c5,c6,n5,n6]
 ·have n5:en < pn:=by omega
  simp [zaJ,za3,encP,hat,hpr,c5,n5]
theorem zt9 (s l:Int) (es:List E) (i:Nat) (hi:i < es.length):oks s l es i=(alB s l es.length i es[i].2.1 es[i].2.2 && (decide (i=0) || beB l (es[i - 1]'(by omega)) es[i])):=by
 unfold oks
 rw [dif_pos hi]
 generalize hp:es[i - 1]'(by omega)=p
 generalize he:es[i]=e
 obtain ⟨en,ea,eb⟩:=e
 obtain ⟨pn,pa,pb⟩:=p
 rw [ztW]
 rfl
theorem zk2 (s l d:Int) (es:List E) (x1 x2 x3 x4:Option A) (Ω:Sto):∀ (m i:Nat) (x:Option A),i + m=es.length→∃ ρ ρ',fFor (fun _=>True) (gN 5) zaB (intsFrom i m) [some (encP s l d es),x1,x2,x3,x4,x] Ω
  = match fbF (oks s l es) m i with | some j=>some (.ret (.int j),ρ,Ω) | none=>some (.nx,ρ',Ω):=by
 intro m
 induction m with
 | zero=>intro i x _;exact ⟨[],_,by simp [intsFrom,fbF,zhd];rfl⟩
 | succ m ih =>
  intro i x h
  have hi:i < es.length:=by omega
  have ga:=znN s l d es i hi Ω
  have gb:=fun h0=>zlU s l d es i hi h0 Ω
  have ho:=zt9 s l es i hi
  generalize alB s l es.length i es[i].2.1 es[i].2.2=B1 at ga ho
  generalize beB l (es[i - 1]'(by omega)) es[i]=B2 at gb ho
  have e:intsFrom i (m + 1) = .int (i:Int) :: intsFrom (i + 1) m:=by simp [intsFrom,List.range'_succ]
  rw [e]
  have st:oks s l es i=true→zaB [some (encP s l d es),x1,x2,x3,x4,some (.int i)] Ω=some (.nx,[some (encP s l d es),x1,x2,x3,x4,some (.int i)],Ω):=by
   intro hk
   rw [ho] at hk
   rw [Bool.and_eq_true] at hk
   obtain ⟨k1,k2⟩:=hk
   subst k1
   by_cases h0:i=0
   ·have hp:¬ 0 < i:=by omega
    simp [zaB,zaz,ga,hp]
   ·have k2:B2=true:=by simpa [h0] using k2
    subst k2
    have hp:0 < i:=by omega
    simp [zaB,zaz,ga,gb h0,hp]
  have sf:oks s l es i=false→zaB [some (encP s l d es),x1,x2,x3,x4,some (.int i)] Ω=some (.ret (.int i),[some (encP s l d es),x1,x2,x3,x4,some (.int i)],Ω):=by
   intro hk
   rw [ho] at hk
   cases B1 with
   | false=>simp [zaB,zaz,ga]
   | true =>
    have hk:decide (i=0)=false∧B2=false:=by simpa using hk
    have h0:i ≠ 0:=by simpa using hk.1
    obtain ⟨_,k2⟩:=hk
    subst k2
    have hp:0 < i:=by omega
    simp [zaB,zaz,ga,gb h0,hp]
  cases hk:oks s l es i with
  | true =>
   obtain ⟨ρ,ρ',q⟩:=ih (i + 1) (some (.int i)) (by omega)
   refine ⟨ρ,ρ',?_⟩
   simp only [fbF,hk,if_true]
   rw [← q]
   exact zbb (ok:=fun _=>True) trivial (ρ0:=[some (encP s l d es),x1,x2,x3,x4,some (.int i)]) (Ω0:=Ω) (by simp) (st hk)
  | false =>
   refine ⟨[some (encP s l d es),x1,x2,x3,x4,some (.int i)],[],?_⟩
   simp only [fbF,hk]
   exact zli (ok:=fun _=>True) trivial (ρ0:=[some (encP s l d es),x1,x2,x3,x4,some (.int i)]) (Ω0:=Ω) (by simp) (sf hk)
theorem zov (s l d:Int) (es:List E) (hn:es.length ≤ 1000) (Ω:Sto):za9 [encP s l d es] Ω=some (.ok (fbA s l d es),Ω):=by
 show trim Ω (outR (zc8 [some (encP s l d es),none,none,none,none,none] Ω))=_
 have hlen:(encL es).length=es.length:=by simp [encL]
 have e0:zc8 [some (encP s l d es),none,none,none,none,none] Ω=sSeq (sIf (vOrT (zay (vOp gLt (vVar 1) (cI 0))) (vOrT (zay (vOp gLt (vVar 2) (cI 0))) (vOrT (zay (vOp gLt (vVar 3) (cI 0))) (zay (vOp gNe (vOp gEq (vVar 4) (vLst false a0)) (vOp gEq (vVar 1) (cI 0)))))))
   (sRet (cI 0))
   sNx)
  (sSeq (sFor (zhg (zad (vCl gLen (zad (vVar 4) a0)) a0)) (gN 5) zaB)
  (sRet cN)) [some (encP s l d es),some (.int s),some (.int l),some (.int d),some (.lst (encL es)),none] Ω:=by
  unfold zc8
  rw [zak (ρ1:=[some (encP s l d es),some (.int s),some (.int l),some (.int d),some (.lst (encL es)),none]) (Ω':=Ω) (by simp [encP])]
 rw [e0]
 unfold fbA fbP
 have hs:(s == 0)=decide (s=0):=by by_cases h:s=0 <;> simp [h]
 have eh:sIf (vOrT (zay (vOp gLt (vVar 1) (cI 0))) (vOrT (zay (vOp gLt (vVar 2) (cI 0))) (vOrT (zay (vOp gLt (vVar 3) (cI 0))) (zay (vOp gNe (vOp gEq (vVar 4) (vLst false a0)) (vOp gEq (vVar 1) (cI 0)))))))
   (sRet (cI 0)) sNx [some (encP s l d es),some (.int s),some (.int l),some (.int d),some (.lst (encL es)),none] Ω=if zhX s l d es then some (.nx,[some (encP s l d es),some (.int s),some (.int l),some (.int d),some (.lst (encL es)),none],Ω) else some (.ret (.int 0),[some (encP s l d es),some (.int s),some (.int l),some (.int d),some (.lst (encL es)),none],Ω):=by
  unfold zhX
  by_cases h1:s < 0
  ·simp [h1]
  by_cases h2:l < 0
  ·simp [h1,h2]
  by_cases h3:d < 0
  ·simp [h1,h2,h3]
  ·cases hE:es.isEmpty <;> by_cases h4:s=0 <;> simp [h1,h2,h3,h4,hE]
 cases hh:zhX s l d es with
 | false =>
  rw [hh] at eh
  rw [zkU eh];simp
 | true =>
  rw [hh] at eh
  rw [zak eh]
  obtain ⟨ρ,ρ',q⟩:=zk2 s l d es (some (.int s)) (some (.int l)) (some (.int d)) (some (.lst (encL es))) Ω es.length 0 none (by omega)
  have e1:sFor (zhg (zad (vCl gLen (zad (vVar 4) a0)) a0)) (gN 5) zaB [some (encP s l d es),some (.int s),some (.int l),some (.int d),some (.lst (encL es)),none] Ω=fFor (fun _=>True) (gN 5) zaB (intsFrom 0 es.length) [some (encP s l d es),some (.int s),some (.int l),some (.int d),some (.lst (encL es)),none] Ω:=by
   rw [forO (S:=zej 0 es.length) (Ω':=Ω) (rngO (j:=(es.length:Int)) (by simp [hlen]) (by unfold za6;omega))]
   rw [← zlt]
   rfl
  rw [q] at e1
  simp only [if_true]
  cases hf:fbF (oks s l es) es.length 0 with
  | some j=>rw [hf] at e1;rw [zkU e1];simp
  | none=>rw [hf] at e1;rw [zak e1];simp
end M
namespace M
open PySem L2 V2
theorem zpj (R:List Rn) (x:Int) (hl:R.length ≤ 1000) (Ω:Sto):zfr [some (.lst (zaf R)),some (.int x)] Ω=some (.ok (.lst ((R.filterMap fun r=>if r.1 ≤ x then some r.2 else none).map A.int)),Ω):=by
 have eF:(zaf R).filterMap (fun a=>match a with | .tup [.int n, .int t]=>if n ≤ x then some (A.int t) else none | _=>none)=(R.filterMap fun r=>if r.1 ≤ x then some r.2 else none).map A.int:=by
  rw [List.map_filterMap]
  simp only [zaf,List.filterMap_map]
  congr 1
  funext r
  simp only [encT,Function.comp]
  split <;> rfl
 rw [← eF]
 refine zgW (S:=srcOf (.lst (zaf R)) (zaf R)) _ (fun ρ=>∃ u v,ρ=[u,v,some (.int x)]) (by simp) (fun _=>rfl) ⟨none,none,rfl⟩ (by simp [zaf];omega) ?_ (by
  show ClL _ (List.filterMap _ (zaf R));rw [eF];exact zhw fun a h=>by obtain ⟨r,_,rfl⟩:=List.mem_map.mp h;simp only [Cl])
 rintro a ha ρ ⟨u,v,rfl⟩ ys
 obtain ⟨r,_,rfl⟩:=List.mem_map.mp ha
 refine ⟨[some (.int r.1),some (.int r.2),some (.int x)],⟨_,_,rfl⟩,by simp [encT],?_⟩
 by_cases c:r.1 ≤ x
 ·exact .inl ⟨.int r.2,by simp [encT,c],by simp [c],by simp⟩
 ·exact .inr ⟨by simp [encT,c],by simp [c]⟩
theorem zoc (x:Int):∀ R:List Rn,(R.filterMap fun r=>if r.1 ≤ x then some r.2 else none).sum=upt R x
 | []=>rfl
 | r :: R=>by
  rw [(zcE r R x).2,← zoc x R]
  by_cases c:r.1 ≤ x <;> simp [c]
theorem zo7 (R:List Rn) (x:Int) (hl:R.length ≤ 1000) (Ω:Sto):zea [.lst (zaf R), .int x] Ω=some (.ok (.int (upt R x)),Ω):=by
 have q:=zpj R x hl Ω
 have i:=zgs (R.filterMap fun r=>if r.1 ≤ x then some r.2 else none)
 have s:=zoc x R
 show trim Ω (outR (zfC [some (.lst (zaf R)),some (.int x)] Ω))=_
 simp [zfC,q,i,s]
theorem zmW (R:List Rn) (x:Int) (hl:R.length ≤ 1000) (Ω:Sto):zeu [some (.lst (zaf R)),some (.int x)] Ω=some (.ok (.lst ((R.filterMap fun r=>if r.1 < x then some r.2 else none).map A.int)),Ω):=by
 have eF:(zaf R).filterMap (fun a=>match a with | .tup [.int n, .int t]=>if n < x then some (A.int t) else none | _=>none)=(R.filterMap fun r=>if r.1 < x then some r.2 else none).map A.int:=by
  rw [List.map_filterMap]
  simp only [zaf,List.filterMap_map]
  congr 1
  funext r
  simp only [encT,Function.comp]
  split <;> rfl
 rw [← eF]
 refine zgW (S:=srcOf (.lst (zaf R)) (zaf R)) _ (fun ρ=>∃ u v,ρ=[u,v,some (.int x)]) (by simp) (fun _=>rfl) ⟨none,none,rfl⟩ (by simp [zaf];omega) ?_ (by
  show ClL _ (List.filterMap _ (zaf R));rw [eF];exact zhw fun a h=>by obtain ⟨r,_,rfl⟩:=List.mem_map.mp h;simp only [Cl])
 rintro a ha ρ ⟨u,v,rfl⟩ ys
 obtain ⟨r,_,rfl⟩:=List.mem_map.mp ha
 refine ⟨[some (.int r.1),some (.int r.2),some (.int x)],⟨_,_,rfl⟩,by simp [encT],?_⟩
 by_cases c:r.1 < x
 ·exact .inl ⟨.int r.2,by simp [encT,c],by simp [c],by simp⟩
 ·exact .inr ⟨by simp [encT,c],by simp [c]⟩
theorem zn9 (x:Int):∀ R:List Rn,(R.filterMap fun r=>if r.1 < x then some r.2 else none).sum=und R x
 | []=>rfl
 | r :: R=>by
  rw [(zcE r R x).1,← zn9 x R]
  by_cases c:r.1 < x <;> simp [c]
theorem znW (R:List Rn) (x:Int) (hl:R.length ≤ 1000) (Ω:Sto):zdN [.lst (zaf R), .int x] Ω=some (.ok (.int (und R x)),Ω):=by
 have q:=zmW R x hl Ω
 have i:=zgs (R.filterMap fun r=>if r.1 < x then some r.2 else none)
 have s:=zn9 x R
 show trim Ω (outR (zeo [some (.lst (zaf R)),some (.int x)] Ω))=_
 simp [zeo,q,i,s]
def wrA (R:List Rn) (es:List E):A:=match wrF R 0 0 es with | some j => .int j | none => .non
def zfn:Due→A
 | .row j => .lst [.str "row", .int j]
 | .pouch j => .lst [.str "pouch", .int j]
 | .size => .lst [.str "size", .int 0]
 | .wrong j => .lst [.str "wrong", .int j]
 | .good => .lst [.str "good", .int 0]
end M
namespace M
open PySem L2 V2
def zeM (R:List Rn):List Int:=R.flatMap fun r=>List.replicate r.2.toNat r.1
def zaD (R:List Rn):List Int:=sortI (zeM R)
theorem zeA (r:Rn) (R:List Rn):zeM (r :: R)=List.replicate r.2.toNat r.1 ++ zeM R:=by simp [zeM]
theorem zi9:∀ {R:List Rn},Tn R→((zeM R).length:Int)=whole R
 | [],_=>rfl
 | r :: R,h=>by
  have e:whole (r :: R)=r.2 + whole R:=by simp [whole]
  have:=zi9 h.tail
  have:=h.head
  rw [zeA,List.length_append,List.length_replicate,e]
  omega
theorem zpL (x:Int):∀ {R:List Rn},Tn R→((zeM R).countP (fun y=>decide (y < x)):Int)=und R x
 | [],_=>rfl
 | r :: R,h=>by
  have i:=zpL x h.tail
  have:=h.head
  rw [zeA,List.countP_append,(zcE r R x).1,List.countP_replicate]
  by_cases c:r.1 < x <;> simp [c] <;> omega
theorem zpI (x:Int):∀ {R:List Rn},Tn R→((zeM R).countP (fun y=>decide (y ≤ x)):Int)=upt R x
 | [],_=>rfl
 | r :: R,h=>by
  have i:=zpI x h.tail
  have:=h.head
  rw [zeA,List.countP_append,(zcE r R x).2,List.countP_replicate]
  by_cases c:r.1 ≤ x <;> simp [c] <;> omega
theorem zkT (q:Int→Bool) (hq:∀ a b:Int,a ≤ b→q b=true→q a=true):∀ (L:List Int),L.Pairwise (· ≤ ·)→∀ (i:Nat) (h:i < L.length),q L[i]=true↔i < L.countP q
 | [],_,i,h=>absurd h (Nat.not_lt_zero _)
 | a :: t,hp,i,h=>by
  obtain ⟨h1,h2⟩:=List.pairwise_cons.mp hp
  by_cases c:q a=true
  ·rw [List.countP_cons_of_pos c]
   cases i with
   | zero=>simp [c]
   | succ i =>
    have:=zkT q hq t h2 i (by simpa using h)
    simp only [List.getElem_cons_succ]
    rw [this]
    omega
  ·have hz:∀ b ∈ t,q b ≠ true:=fun b hb z=>c (hq a b (h1 b hb) z)
   have e:(a :: t).countP q=0:=by
    rw [List.countP_eq_zero]
    intro b hb
    rcases List.mem_cons.mp hb with rfl | hb
    ·exact c
    ·exact hz b hb
   rw [e]
   constructor
   ·intro z
    exfalso
    cases i with
    | zero=>exact c z
    | succ i=>exact hz _ (List.getElem_mem _) z
   ·intro z;exact absurd z (Nat.not_lt_zero _)
theorem zmZ {R:List Rn} (hT:Tn R) (n:Int) (i:Nat) (h:i < (zaD R).length):(zaD R)[i]=n↔und R n < (i:Int) + 1∧(i:Int) + 1 ≤ upt R n:=by
 have p:=sortI_perm (zeM R)
 have hs:(zaD R).Pairwise (· ≤ ·):=zi6 _
 have a1:=zkT (fun y=>decide (y < n)) (fun a b hab hb=>by simp only [decide_eq_true_eq] at hb ⊢;omega) _ hs i h
 have a2:=zkT (fun y=>decide (y ≤ n)) (fun a b hab hb=>by simp only [decide_eq_true_eq] at hb ⊢;omega) _ hs i h
 have e1:(zaD R).countP (fun y=>decide (y < n))=(zeM R).countP (fun y=>decide (y < n)):=p.countP_eq _
 have e2:(zaD R).countP (fun y=>decide (y ≤ n))=(zeM R).countP (fun y=>decide (y ≤ n)):=p.countP_eq _
 have c1:=zpL n hT
 have c2:=zpI n hT
 rw [e1] at a1
 rw [e2] at a2
 simp only [decide_eq_true_eq] at a1 a2
 constructor
 ·intro e
  have b1:¬ (zaD R)[i] < n:=by omega
  have b2:(zaD R)[i] ≤ n:=by omega
  have:=mt a1.mpr b1
  have:=a2.mp b2
  omega
 ·intro e
  have b1:¬ (zaD R)[i] < n:=fun z=>by have:=a1.mp z;omega
  have b2:(zaD R)[i] ≤ n:=a2.mpr (by omega)
  omega
theorem zfD {R:List Rn} (hT:Tn R):((zaD R).length:Int)=whole R:=by
 unfold zaD
 rw [zdL]
 exact zi9 hT
theorem zlC (ok:Sto→Prop) (hok:∀ Ω,ok Ω) (L:A) (Ω:Sto):∀ (rs:List Rn) (xs:List Int) (x y:Option A),(∀ r ∈ rs,1 ≤ r.2∧r.2 ≤ 1000000)→xs.length + (zeM rs).length ≤ 1000 →
  ∃ x' y',fFor ok (zcR 2 (zat (gN 2) (zat (gN 3) zcU))) zeb (zaf rs) [some L,some (.lst (xs.map A.int)),x,y] Ω=some (.nx,[some L,some (.lst ((xs ++ zeM rs).map A.int)),x',y'],Ω)
 | [],xs,x,y,_,_=>⟨x,y,by simp [zaf,fFor,hok,zeM]⟩
 | r :: rs,xs,x,y,h,hl=>by
  have hr:=h r (List.mem_cons_self ..)
  rw [zeA,List.length_append,List.length_replicate] at hl
  obtain ⟨x',y',q⟩:=zlC ok hok L Ω rs (xs ++ List.replicate r.2.toNat r.1) (some (.int r.1)) (some (.int r.2)) (fun q hq=>h q (List.mem_cons_of_mem _ hq)) (by rw [List.length_append,List.length_replicate];omega)
  refine ⟨x',y',?_⟩
  rw [zeA,← List.append_assoc,← q]
  have ee:zaf (r :: rs)=encT r :: zaf rs:=rfl
  have h1:(1:Nat) ≤ sizeLine:=by decide
  have k1 : -(2 ^ 63) ≤ r.2∧r.2 < 2 ^ 63∧1 * r.2.toNat ≤ sizeLine:=by rw [sizeLine_eq];omega
  have ef:(List.replicate r.2.toNat [A.int r.1]).flatten=(List.replicate r.2.toNat r.1).map A.int:=by simp
  have z:¬ sizeLine < (xs.map A.int).length + ((List.replicate r.2.toNat r.1).map A.int).length:=by rw [sizeLine_eq];simp;omega
  rw [ee]
  refine zbb (hok _) (ρ0:=[some L,some (.lst (xs.map A.int)),some (.int r.1),some (.int r.2)]) (Ω0:=Ω) (by simp [encT]) ?_
  have g1:gRep false (.lst [.int r.1]) (.int r.2) Ω=some (.ok (.lst ((List.replicate r.2.toNat r.1).map A.int)),Ω):=by
   rw [← ef]
   show (if zk3 (.lst [.int r.1])=false∧_ then _ else none)=_
   rw [if_pos ⟨rfl,k1⟩]
   rfl
  have g2:gAdd false (.lst (xs.map A.int)) (.lst ((List.replicate r.2.toNat r.1).map A.int)) Ω=some (.ok (.lst ((xs ++ List.replicate r.2.toNat r.1).map A.int)),Ω):=by
   rw [List.map_append]
   generalize (List.replicate r.2.toNat r.1).map A.int=u at z
   generalize xs.map A.int=v at z
   simp [z]
  simp only [List.map_append,List.map_replicate] at g1 g2 ⊢
  simp only [zeb,sAsg,vOp,vLst]
  simp [g1,g2,h1,-gRep,-gAdd]
end M
namespace M
open PySem L2 V2
theorem ztQ (R:List Rn) (h:∀ r ∈ R,1 ≤ r.2∧r.2 ≤ 1000000) (hl:(zeM R).length ≤ 63) (Ω:Sto):ze4 [.lst (zaf R)] Ω=some (.ok (.lst ((zaD R).map A.int)),Ω):=by
 obtain ⟨x',y',q⟩:=zlC (fun Ω'=>zaF Ω' (.lst (zaf R))=some (zaf R)) (fun _=>rfl) (.lst (zaf R)) Ω R [] none none h (by simp;omega)
 rw [List.nil_append] at q
 have i1:=zgs (zeM R)
 have hs:(zeM R).length < 64:=by omega
 show trim Ω (outR (zgb [some (.lst (zaf R)),none,none,none] Ω))=_
 unfold zgb
 rw [zak (ρ1:=[some (.lst (zaf R)),some (.lst ([] : List A)),none,none]) (Ω':=Ω) (by simp)]
 rw [zak (ρ1:=[some (.lst (zaf R)),some (.lst ((zeM R).map A.int)),x',y']) (Ω':=Ω) (by
  rw [forO (S:=srcOf (.lst (zaf R)) (zaf R)) (Ω':=Ω) (by simp)]
  exact q)]
 simp [i1,hs,zaD]
theorem zhL (L:List Int):eqA 8 (.lst (L.map A.int)) (.lst [])=L.isEmpty:=by cases L <;> rfl
theorem zjf (L:List Int):pur 8 (.lst (L.map A.int))=true:=by
 simp [pur]
theorem zky (L:List Int) (Ω:Sto):gNe (.lst (L.map A.int)) (.lst []) Ω=some (.ok (.bl (!L.isEmpty)),Ω):=by
 have h1:=zjf L
 have h2:pur 8 (.lst [])=true:=rfl
 simp [gNe,gEqB,zb6 h1,zb6 h2,h1,h2,zhL]
theorem zh8 (L:List Int) (k:Nat) (Ω:Sto) (g:Ω[k]? = some (.lst (L.map A.int))):gEq (.cel k) (.lst []) Ω=some (.ok (.bl L.isEmpty),Ω):=by
 have h1:=zjf L
 have h2:pur 8 (.lst [])=true:=rfl
 have r1:res Ω 6 (.cel k)=some (.lst (L.map A.int)):=by rw [zi2 g,zg7 _ (by simp)];rfl
 simp [gEq,gEqB,r1,zb6 h2,h1,h2,zhL]
def ltF (p:Int):A→Option A
 | .int b=>if b < p then some (.int b) else none
 | _=>none
theorem zqq (p:Int):∀ B:List Int,(B.map A.int).filterMap (ltF p)=(B.filter fun b=>decide (b < p)).map A.int
 | []=>rfl
 | b :: B=>by
  by_cases c:b < p <;> simp [ltF,c,zqq p B]
theorem zoE (x0 x1 x3 x4 x5:Option A) (bv:A) (B:List Int) (p:Int) (Ω:Sto) (hb:∀ Δ,zaF (Ω ++ Δ) bv=some (B.map A.int)) (hl:B.length ≤ 1000) :
  zdI [x0,x1,some bv,x3,x4,x5,some (.int p)] Ω=some (.ok (.lst ((B.filter fun b=>decide (b < p)).map A.int)),Ω):=by
 have hb0:zaF Ω bv=some (B.map A.int):=by have:=hb [];rwa [List.append_nil] at this
 rw [← zqq]
 refine zgW (S:=srcOf bv (B.map A.int)) (ltF p) (fun ρ=>∃ u,ρ=[u,some (.int p)]) (by simp [hb0]) (fun ys=>hb [.lst ys]) ⟨none,rfl⟩ (by simp;omega) ?_ (by
  show ClL _ ((B.map A.int).filterMap (ltF p));rw [zqq];exact zhw fun a h=>by obtain ⟨r,_,rfl⟩:=List.mem_map.mp h;simp only [Cl])
 rintro x hx ρ ⟨u,rfl⟩ ys
 obtain ⟨b,_,rfl⟩:=List.mem_map.mp hx
 refine ⟨[some (.int b),some (.int p)],⟨_,rfl⟩,by simp,?_⟩
 by_cases c:b < p
 ·exact .inl ⟨.int b,by simp [ltF,c],by simp [c],by simp⟩
 ·exact .inr ⟨by simp [ltF,c],by simp [c]⟩
def okPl (R:List Rn) (n z p:Int):Bool:=decide (und R n < p∧p ≤ upt R n) && decide (z < p)
theorem zmo {B:List Int} {z:Int} (h1:z ∈ B) (h2:∀ b ∈ B,z ≤ b) (p:Int):(!(B.filter fun b=>decide (b < p)).isEmpty)=decide (z < p):=by
 by_cases c:z < p
 ·rw [decide_eq_true c]
  have:z ∈ B.filter fun b=>decide (b < p):=List.mem_filter.mpr ⟨h1,by simpa using c⟩
  cases e:B.filter fun b=>decide (b < p) with
  | nil=>rw [e] at this;cases this
  | cons=>rfl
 ·rw [decide_eq_false c]
  have:(B.filter fun b=>decide (b < p))=[]:=by
   rw [List.filter_eq_nil_iff]
   intro b hb
   have:=h2 b hb
   simp;omega
  rw [this];rfl
theorem zl5 {R:List Rn} (hT:Tn R) (x1 x3:Option A) (e:E) (bv:A) (B:List Int) (z p:Int) (ds:List Int) (Ω:Sto) (hb:∀ Δ,zaF (Ω ++ Δ) bv=some (B.map A.int)) (hl:B.length ≤ 1000) (h1:z ∈ B) (h2:∀ b ∈ B,z ≤ b)
  (hp:1 ≤ p) (hp2:p ≤ whole R) (hd:ds.length ≤ 1000) :
  zaZ [some (.lst ((zaD R).map A.int)),x1,some bv,x3,some (encE e),some (.cel Ω.length),some (.int p)] (Ω ++ [.lst (ds.map A.int)])
   = some (.nx,[some (.lst ((zaD R).map A.int)),x1,some bv,x3,some (encE e),some (.cel Ω.length),some (.int p)],Ω ++ [.lst ((if okPl R e.1 z p then ds ++ [p] else ds).map A.int)]):=by
 have hlen:=zfD hT
 obtain ⟨i,hi⟩:=Int.eq_ofNat_of_zero_le (show 0 ≤ p - 1 by omega)
 have hi2:i < (zaD R).length:=by omega
 have na:=zmZ hT e.1 i hi2
 have hat:atI ((zaD R).map A.int) (p - 1)=some (.int (zaD R)[i]):=by rw [hi,zbO];simp [hi2]
 have bq:=zoE (some (.lst ((zaD R).map A.int))) x1 x3 (some (encE e)) (some (.cel Ω.length)) bv B p (Ω ++ [.lst (ds.map A.int)]) (fun Δ=>by rw [List.append_assoc];exact hb _) hl
 have gn:=zky (B.filter fun b=>decide (b < p)) (Ω ++ [.lst (ds.map A.int)])
 rw [zmo h1 h2] at gn
 generalize (B.filter fun b=>decide (b < p)).map A.int=ws at bq gn
 have hI:isL (Ω ++ [.lst (ds.map A.int)]) (.cel Ω.length):=zjw (zbo (ds:=ds.map A.int) (by simp))
 have hcl:zgS (Ω ++ [.lst (ds.map A.int)]) (.cel Ω.length)=some (Ω.length,ds.map A.int):=zeB (by simp)
 have hz:ds.length < sizeLine:=by rw [sizeLine_eq];omega
 have e1:(i:Int) + 1=p:=by omega
 rw [e1] at na
 generalize (zaD R)[i]=v at na hat
 generalize hN:(zaD R).map A.int=NL at hat bq
 simp only [encE] at bq
 unfold okPl
 by_cases c1:v=e.1
 ·have c2:=na.mp c1
  by_cases c3:z < p
  ·rw [decide_eq_true c3] at gn
   simp [zaZ,hat,encE,c1,bq,gn,c2,c3,hI,hcl,hz]
  ·rw [decide_eq_false c3] at gn
   simp [zaZ,hat,encE,c1,bq,gn,c2,c3]
 ·have c2:¬ (und R e.1 < p∧p ≤ upt R e.1):=fun z=>c1 (na.mpr z)
  simp [zaZ,hat,encE,c1,c2]
theorem zie {R:List Rn} (hT:Tn R) (x1 x3:Option A) (e:E) (bv:A) (B:List Int) (z:Int) (Ω:Sto) (hb:∀ Δ,zaF (Ω ++ Δ) bv=some (B.map A.int)) (hl:B.length ≤ 1000) (h1:z ∈ B) (h2:∀ b ∈ B,z ≤ b) :
  ∀ (ps ds:List Int) (x6:Option A),(∀ p ∈ ps,1 ≤ p∧p ≤ whole R)→ds.length + ps.length ≤ 1000 →
  ∃ y6,fFor (fun _=>True) (gN 6) zaZ (ps.map A.int) [some (.lst ((zaD R).map A.int)),x1,some bv,x3,some (encE e),some (.cel Ω.length),x6] (Ω ++ [.lst (ds.map A.int)])
   = some (.nx,[some (.lst ((zaD R).map A.int)),x1,some bv,x3,some (encE e),some (.cel Ω.length),y6],Ω ++ [.lst ((ds ++ ps.filter (okPl R e.1 z)).map A.int)])
 | [],ds,x6,_,_=>⟨x6,by simp [fFor]⟩
 | p :: ps,ds,x6,hp,hd=>by
  have hp0:=hp p (List.mem_cons_self ..)
  simp only [List.length_cons] at hd
  have t:=zl5 hT x1 x3 e bv B z p ds Ω hb hl h1 h2 hp0.1 hp0.2 (by omega)
  obtain ⟨y6,q⟩:=zie hT x1 x3 e bv B z Ω hb hl h1 h2 ps (if okPl R e.1 z p then ds ++ [p] else ds) (some (.int p)) (fun q hq=>hp q (List.mem_cons_of_mem _ hq)) (by split <;> (try simp) <;> omega)
  refine ⟨y6,?_⟩
  have ef:ds ++ (p :: ps).filter (okPl R e.1 z)=(if okPl R e.1 z p then ds ++ [p] else ds) ++ ps.filter (okPl R e.1 z):=by
   by_cases c:okPl R e.1 z p=true <;> simp [c]
  rw [ef,← q,List.map_cons]
  exact zbb (ok:=fun _=>True) trivial (ρ0:=[some (.lst ((zaD R).map A.int)),x1,some bv,x3,some (encE e),some (.cel Ω.length),some (.int p)]) (Ω0:=Ω ++ [.lst (ds.map A.int)]) (by simp) t
end M
namespace M
open PySem L2 V2
def rngL (lo:Int) (n:Nat):List Int:=(List.range n).map fun (i:Nat)=>lo + (i:Int)
theorem zlw {lo:Int} {n:Nat} {p:Int}:p ∈ rngL lo n↔lo ≤ p∧p < lo + (n:Int):=by
 unfold rngL
 rw [List.mem_map]
 constructor
 ·rintro ⟨i,hi,rfl⟩
  have:=List.mem_range.mp hi
  omega
 ·intro h
  exact ⟨(p - lo).toNat,List.mem_range.mpr (by omega),by omega⟩
theorem zoP (lo:Int) (n:Nat):(rngL lo n).map A.int=(List.range n).map fun (i:Nat)=>A.int (lo + (i:Int)):=by
 unfold rngL;rw [List.map_map];rfl
theorem zpY {f:Ev→Mo (List A)} {ρ:Ev} {Ω Ω':Sto} {i j:Int} (h:f ρ Ω=some (.ok [.int i, .int j],Ω')) (hs:za6 i∧za6 j):zmb f ρ Ω=some (.ok (zej i (j - i).toNat),Ω'):=by
 unfold zmb
 rw [zke h]
 show mb (chk (za6 i∧za6 j)) _ Ω'=_
 rw [zmP _ hs]
 rfl
theorem zmr {R:List Rn} (hT:Tn R) (e:E) (z:Int) (hz:0 ≤ z) (F:List Int) (hF:F=(rngL (max 1 e.2.1) (min (whole R) e.2.2 + 1 - max 1 e.2.1).toNat).filter (okPl R e.1 z)) :
  (min e.2.2 (upt R e.1) < max (z + 1) (max e.2.1 (und R e.1 + 1))→F=[])∧(¬ min e.2.2 (upt R e.1) < max (z + 1) (max e.2.1 (und R e.1 + 1))→max (z + 1) (max e.2.1 (und R e.1 + 1)) ∈ F∧∀ b ∈ F,max (z + 1) (max e.2.1 (und R e.1 + 1)) ≤ b):=by
 have hu:=zdY hT e.1
 have mem:∀ p,p ∈ F↔(max 1 e.2.1 ≤ p∧p ≤ min (whole R) e.2.2)∧(und R e.1 < p∧p ≤ upt R e.1)∧z < p:=by
  intro p
  rw [hF,List.mem_filter,zlw]
  unfold okPl
  simp only [Bool.and_eq_true,decide_eq_true_eq]
  constructor
  ·rintro ⟨h1,h2,h3⟩;exact ⟨by omega,h2,h3⟩
  ·rintro ⟨h1,h2,h3⟩;exact ⟨by omega,h2,h3⟩
 constructor
 ·intro c
  rw [List.eq_nil_iff_forall_not_mem]
  intro p hp
  have:=(mem p).mp hp
  omega
 ·intro c
  refine ⟨(mem _).mpr ?_,fun b hb=>?_⟩
  ·omega
  ·have:=(mem b).mp hb
   omega
theorem zhF {R:List Rn} (hT:Tn R) (hw:whole R ≤ 200) (L:A) (ok:Sto→Prop) (hok:∀ Ω,ok Ω):∀ (es:List E) (z:Int) (k:Nat) (Ω:Sto) (bv:A) (B:List Int) (x3 x4 x5 x6:Option A),0 ≤ z→(∀ e ∈ es,za6 e.2.1∧za6 e.2.2) →
  (∀ Δ,zaF (Ω ++ Δ) bv=some (B.map A.int))→B.length ≤ 1000→z ∈ B→(∀ b ∈ B,z ≤ b) →
  ∃ ρ Δ,fFor ok (zcR 2 (zat (gN 3) (zat (gN 4) zcU))) zbe (zaY k (encL es)) [some (.lst ((zaD R).map A.int)),some L,some bv,x3,x4,x5,x6] Ω
   = match wrF R k z es with | some j=>some (.ret (.int j),ρ,Ω ++ Δ) | none=>some (.nx,ρ,Ω ++ Δ)
 | [],z,k,Ω,bv,B,x3,x4,x5,x6,_,_,_,_,_,_=>⟨_,[],by simp [wrF,encL,zaY,fFor,hok];rfl⟩
 | e :: es,z,k,Ω,bv,B,x3,x4,x5,x6,hz,hsm,hb,hl,h1,h2=>by
  have he:=hsm e (List.mem_cons_self ..)
  have hw0:0 ≤ whole R:=Int.le_trans (by have:=zki hT 0;have:=ziQ hT 0;omega) (zdY hT 0)
  have hlen:=zfD hT
  have hlen2:(((zaD R).map A.int).length:Int)=whole R:=by rw [List.length_map];exact hlen
  obtain ⟨y6,q⟩:=zie hT (some L) (some (.int k)) e bv B z Ω hb hl h1 h2 (rngL (max 1 e.2.1) (min (whole R) e.2.2 + 1 - max 1 e.2.1).toNat) [] x6 (fun p hp=>by have:=zlw.mp hp;omega) (by simp [rngL];omega)
  rw [List.nil_append,zoP] at q
  generalize hF:(rngL (max 1 e.2.1) (min (whole R) e.2.2 + 1 - max 1 e.2.1).toNat).filter (okPl R e.1 z)=F at q
  obtain ⟨f1,f2⟩:=zmr hT e z hz F hF.symm
  have hFl:F.length ≤ 1000:=by
   rw [← hF]
   have:=List.length_filter_le (okPl R e.1 z) (rngL (max 1 e.2.1) (min (whole R) e.2.2 + 1 - max 1 e.2.1).toNat)
   have:(rngL (max 1 e.2.1) (min (whole R) e.2.2 + 1 - max 1 e.2.1).toNat).length ≤ 300:=by simp [rngL];omega
   omega
  have gn:=zh8 F Ω.length (Ω ++ [.lst (F.map A.int)]) (by simp)
  have body:zbe [some (.lst ((zaD R).map A.int)),some L,some bv,some (.int k),some (encE e),x5,x6] Ω=sSeq (sIf (zay (vOp gEq (vVar 5) (vLst false a0))) (sRet (vVar 3)) sNx) (sAsg (vVar 5) (gN 2)) [some (.lst ((zaD R).map A.int)),some L,some bv,some (.int k),some (encE e),some (.cel Ω.length),y6] (Ω ++ [.lst (F.map A.int)]):=by
   unfold zbe
   rw [zak (ρ1:=[some (.lst ((zaD R).map A.int)),some L,some bv,some (.int k),some (encE e),some (.cel Ω.length),x6]) (Ω':=Ω ++ [.lst []]) (by simp)]
   rw [zak (ρ1:=[some (.lst ((zaD R).map A.int)),some L,some bv,some (.int k),some (encE e),some (.cel Ω.length),y6]) (Ω':=Ω ++ [.lst (F.map A.int)]) (by
    rw [forO (zpY (i:=max 1 e.2.1) (j:=min (whole R) e.2.2 + 1) (Ω':=Ω ++ [.lst []]) (by simp [encE,← hlen]) (by unfold za6 at he ⊢;omega))]
    exact q)]
  rw [znS]
  by_cases c:min e.2.2 (upt R e.1) < max (z + 1) (max e.2.1 (und R e.1 + 1))
  ·have hF0:=f1 c
   rw [hF0] at gn body
   refine ⟨[some (.lst ((zaD R).map A.int)),some L,some bv,some (.int k),some (encE e),some (.cel Ω.length),y6],[.lst []],?_⟩
   simp only [wrF,if_pos c]
   refine zli (hok _) (ρ0:=[some (.lst ((zaD R).map A.int)),some L,some bv,some (.int k),some (encE e),x5,x6]) (Ω0:=Ω) (by simp) ?_
   rw [body]
   simp only [List.map_nil,List.isEmpty_nil] at gn ⊢
   simp [gn]
  ·obtain ⟨g1,g2⟩:=f2 c
   have hFe:F.isEmpty=false:=by cases F with | nil=>cases g1 | cons=>rfl
   rw [hFe] at gn
   obtain ⟨ρ,Δ,q2⟩:=zhF hT hw L ok hok es (max (z + 1) (max e.2.1 (und R e.1 + 1))) (k + 1) (Ω ++ [.lst (F.map A.int)]) (.cel Ω.length) F (some (.int k)) (some (encE e)) (some (.cel Ω.length)) y6 (by omega) (fun x hx=>hsm x (List.mem_cons_of_mem _ hx))
    (fun Δ=>by rw [zl8];exact zbo (by simp)) hFl g1 g2
   refine ⟨ρ,[.lst (F.map A.int)] ++ Δ,?_⟩
   simp only [wrF,if_neg c]
   rw [← List.append_assoc,← q2]
   refine zbb (hok _) (ρ0:=[some (.lst ((zaD R).map A.int)),some L,some bv,some (.int k),some (encE e),x5,x6]) (Ω0:=Ω) (by simp) ?_
   rw [body]
   simp [gn]
end M
namespace M
open PySem L2 V2
end M
namespace M
open PySem L2 V2
theorem znb {R:List Rn} (hT:Tn R) (hw:whole R ≤ 200) (es:List E) (hsm:∀ e ∈ es,za6 e.2.1∧za6 e.2.2) (Ω:Sto):zbc [.lst ((zaD R).map A.int), .lst (encL es)] Ω=some (.ok (wrA R es),Ω):=by
 obtain ⟨ρ,Δ,q⟩:=zhF hT hw (.lst (encL es)) (fun Ω'=>zaH Ω' (.lst (encL es))=some (encL es)) (fun _=>rfl) es 0 0 Ω (.lst [.int 0]) [0] none none none none (Int.le_refl _) hsm (fun Δ=>rfl) (by simp) (by simp) (by simp)
 have h1:(1:Nat) ≤ sizeLine:=by decide
 show trim Ω (outR (zdC [some (.lst ((zaD R).map A.int)),some (.lst (encL es)),none,none,none,none,none] Ω))=_
 have e1:sFor (zjp (vVar 1)) (zcR 2 (zat (gN 3) (zat (gN 4) zcU))) zbe [some (.lst ((zaD R).map A.int)),some (.lst (encL es)),some (.lst [.int 0]),none,none,none,none] Ω=match wrF R 0 0 es with | some j=>some (.ret (.int j),ρ,Ω ++ Δ) | none=>some (.nx,ρ,Ω ++ Δ):=by
  rw [forO (S:=enumSrc (.lst (encL es)) (encL es)) (Ω':=Ω) (by simp)]
  exact q
 unfold zdC
 rw [zak (ρ1:=[some (.lst ((zaD R).map A.int)),some (.lst (encL es)),some (.lst [.int 0]),none,none,none,none]) (Ω':=Ω) (by simp [h1])]
 unfold wrA
 cases hb:wrF R 0 0 es with
 | some j =>
  rw [hb] at e1
  rw [zkU e1]
  simp only [outR]
  exact zeg (by simp only [Cl])
 | none =>
  rw [hb] at e1
  rw [zak e1]
  have e:sRet cN ρ (Ω ++ Δ)=some (.ret .non,ρ,Ω ++ Δ):=by simp
  rw [e]
  simp only [outR]
  exact zeg (by simp only [Cl])
abbrev rs85:List Str:=["NoPouch", "NoSize", "NoPlace", "NoRow", "Wrong"]
abbrev cs85:List Str:=["RankError", "NoRow", "NoPlace", "NoPouch", "NoSize", "Wrong"]
noncomputable abbrev g85:Str→Option HF:=zka rs85 cs85 "NoPouch" zbE (zka rs85 cs85 "Wrong" zbG hNil)
def zrW:Due→Option (Exc × Str × Nat)
 | .pouch j=>some (⟨"NoPouch",[("at", .int j)]⟩, "pouch",j)
 | .wrong j=>some (⟨"Wrong",[("at", .int j)]⟩, "wrong",j)
 | _=>none
theorem zst {D:Due} {e:Exc} {w:Str} {j:Nat} (h:zrW D=some (e,w,j)) (r pq fd:Option A) (Ω:Sto):∃ fh,g85 e.cls=some fh∧∀ p d,zma 4 (fh p d e [r,pq,some .non,fd,some (exA p d e)] Ω)=some (.nx,[r,pq,some (.lst [.str w, .int j]),fd,none],Ω):=by
 have h2:(2:Nat) ≤ sizeLine:=by decide
 cases D with
 | pouch j =>
  cases h
  refine ⟨zbE,by show g85 "NoPouch" = _;simp only [zka,show xtab rs85 cs85 "NoPouch" "NoPouch" = some true by decide],fun p d=>?_⟩
  simp [zbE,exA,h2,zma]
 | wrong j =>
  cases h
  refine ⟨zbG,by show g85 "Wrong" = _;simp only [zka,show xtab rs85 cs85 "Wrong" "NoPouch" = some false by decide,show xtab rs85 cs85 "Wrong" "Wrong" = some true by decide],fun p d=>?_⟩
  simp [zbG,exA,h2,zma]
 | row j=>cases h
 | size=>cases h
 | good=>cases h
theorem zmk (R:List Rn) (p:Po) (hl:R.length ≤ 63) (hz:p.es.length ≤ 1000) (hd:(∃ j,dueW R p = .pouch j)∨(∃ j,dueW R p = .wrong j)∨dueW R p = .good) (Ω:Sto):zcJ [.lst (zaf R),encQ p] Ω=some (.ok (zfn (dueW R p)),Ω):=by
 have jd:=fun Ω=>zmG R p hl hz Ω
 have h4:(4:Nat) ≤ sizeLine:=by decide
 have h1':(1:Nat) ≤ sizeLine:=by decide
 have h2':(2:Nat) ≤ sizeLine:=by decide
 have h3:(3:Nat) ≤ sizeLine:=by decide
 have hcut:cutA [A.int p.s, .int p.l, .int p.d, .lst (encL p.es)] none (some 3)=[.int p.s, .int p.l, .int p.d]:=by
  simp [cutA];rfl
 have nz3:¬ sizeLine < 3:=by decide
 have x3:HT.sIx 4 0 none=0:=rfl
 have x4:HT.sIx 4 4 (some 3)=3:=by decide
 have z1:(zaf R).length ≤ sizeLine:=by rw [sizeLine_eq];simp [zaf];omega
 have z2:(encL p.es).length ≤ sizeLine:=by rw [sizeLine_eq];simp [encL];omega
 have a3:∀ (a b c d:A),atI [a,b,c,d] 3=some d:=fun a b c d=>rfl
 have arg:zad (vCl (zgQ false) (zad (vVar 0) a0)) (zad (vOp (gAdd false) (vSl false (vVar 1) sl0 (zhI (cI 3))) (vTup (zad (vCl (zgQ false) (zad (vOp gIx (vVar 1) (cI 3)) a0)) a0))) a0) [some (.lst (zaf R)),some (encQ p),some .non,some .non,none] Ω=some (.ok [.lst (zaf R),encQ p],Ω):=by
  simp [encQ,encP,hcut,x3,x4,nz3,h1',h2',h3,h4,z1,z2,a3]
 generalize hargs:zad (vCl (zgQ false) (zad (vVar 0) a0)) (zad (vOp (gAdd false) (vSl false (vVar 1) sl0 (zhI (cI 3))) (vTup (zad (vCl (zgQ false) (zad (vOp gIx (vVar 1) (cI 3)) a0)) a0))) a0)=ARGS at arg
 have e1:vCl (zaz 2 zdu) ARGS [some (.lst (zaf R)),some (encQ p),some .non,some .non,none] Ω=some (resW (dueW R p),Ω):=by
  show mb (ARGS [some (.lst (zaf R)),some (encQ p),some .non,some .non,none]) _ Ω=_
  rw [zke arg]
  simp [zaz,jd]
 have hu:zce=sAsg (vCl (zaz 2 zdu) ARGS) (gN 3):=by rw [← hargs];rfl
 have fin:∀ (r:A),outR (zb2 [some (.lst (zaf R)),some (encQ p),none,none,none] Ω)=some (.ok r,Ω)→zcJ [.lst (zaf R),encQ p] Ω=some (.ok r,Ω):=by
  intro r h
  have e3:fnF 5 zb2 [.lst (zaf R),encQ p] Ω=some (.ok r,Ω):=by
   show trim Ω (outR (zb2 [some (.lst (zaf R)),some (encQ p),none,none,none] Ω))=_
   rw [h];simp
  show noX (fnF 5 zb2) [.lst (zaf R),encQ p] Ω=_
  simp only [noX,e3]
 refine fin _ ?_
 unfold zb2
 rw [zak (ρ1:=[some (.lst (zaf R)),some (encQ p),some .non,none,none]) (Ω':=Ω) (by simp)]
 rw [zak (ρ1:=[some (.lst (zaf R)),some (encQ p),some .non,some .non,none]) (Ω':=Ω) (by simp)]
 cases hw:zrW (dueW R p) with
 | none =>
  have hg:dueW R p = .good:=by
   rcases hd with ⟨j,h⟩ | ⟨j,h⟩ | h
   ·rw [h] at hw;cases hw
   ·rw [h] at hw;cases hw
   ·exact h
  rw [hg] at jd
  have e0:zce [some (.lst (zaf R)),some (encQ p),some .non,some .non,none] Ω=some (.nx,[some (.lst (zaf R)),some (encQ p),some .non,some (.bl true),none],Ω):=by
   rw [hg] at e1
   rw [hu]
   unfold sAsg
   rw [zmD e1]
   simp
  rw [zak (zqg e0)]
  rw [hg]
  simp [h2',isBl,zfn]
 | some q =>
  obtain ⟨e,w,j⟩:=q
  have he:resW (dueW R p) = .exc e:=by
   cases hD:dueW R p <;> rw [hD] at hw <;> cases hw <;> rfl
  have ht:zfn (dueW R p) = .lst [.str w, .int j]:=by
   cases hD:dueW R p <;> rw [hD] at hw <;> cases hw <;> rfl
  rw [he] at jd
  have e0:zce [some (.lst (zaf R)),some (encQ p),some .non,some .non,none] Ω=some (.exc e,[some (.lst (zaf R)),some (encQ p),some .non,some .non,none],Ω):=by
   rw [he] at e1
   rw [hu]
   unfold sAsg sM
   rw [e1]
  obtain ⟨fh,hf,hh⟩:=zst hw (some (.lst (zaf R))) (some (encQ p)) (some .non) Ω
  rw [zak (zrk (g:=g85) e0 hf hh)]
  rw [ht]
  simp
end M
namespace M
open PySem L2 V2
theorem zpU (lf:Addr) (g:A→Mo A) (a:A) (Ω:Sto) (ds:List A) (m:Nat) (h1:zaF Ω a=some ds) (h4:∀ i d,ds[i]? = some d→g d Ω=some (.ok (.bl (decide (m ≤ i))),Ω)):∀ (k fuel st en:Nat) (x:Option A),en - st ≤ k→k < fuel→st ≤ m→m ≤ en→en ≤ ds.length →
  ∃ x',zdF (za2 lf g) (zby lf g) fuel [some a,some (.adr lf),some (.int st),some (.int en),x] Ω=some (.nx,[some a,some (.adr lf),some (.int m),some (.int m),x'],Ω):=by
 intro k
 induction k with
 | zero =>
  intro fuel st en x hk hf h2 h3 h5
  obtain ⟨fuel,rfl⟩ : ∃ n,fuel=n + 1:=⟨fuel - 1,by omega⟩
  have e1:st=m:=by omega
  have e2:en=m:=by omega
  subst e1 e2
  exact ⟨x,by rw [zil (Ω1:=Ω) (by simp [za2])]⟩
 | succ k ih =>
  intro fuel st en x hk hf h2 h3 h5
  obtain ⟨fuel,rfl⟩ : ∃ n,fuel=n + 1:=⟨fuel - 1,by omega⟩
  by_cases hlt:st < en
  ·have hlt':(st:Int) < (en:Int):=by omega
   have hd2:∀ j,CDiv j 2:=fun j=>⟨by decide,by decide⟩
   obtain ⟨mi,hmi⟩ : ∃ mi:Nat,mi=(st + en) / 2:=⟨_,rfl⟩
   have hmid:((st:Int) + (en:Int)) / 2=(mi:Int):=by omega
   have hml:mi < ds.length:=by omega
   have hat:atI ds (mi:Int)=some ds[mi]:=by rw [zbO,List.getElem?_eq_getElem hml]
   have hg:=h4 mi _ (List.getElem?_eq_getElem hml)
   have st1:(sAsg (vOp (gDiv) (vOp (gAdd false) (vVar 2) (vVar 3)) (cI 2)) (gN 4)) [some a,some (.adr lf),some (.int st),some (.int en),x] Ω=some (.nx,[some a,some (.adr lf),some (.int st),some (.int en),some (.int mi)],Ω):=by
    simp [hd2,hmid]
   by_cases hm:m ≤ mi
   ·obtain ⟨x',q⟩:=ih fuel st mi (some (.int mi)) (by omega) (by omega) h2 hm (by omega)
    refine ⟨x',?_⟩
    rw [← q]
    refine zhp (Ω1:=Ω) (by simp [za2,hlt']) ?_
    rw [decide_eq_true hm] at hg
    unfold zby
    rw [zak st1]
    simp [h1,hat,hg]
   ·obtain ⟨x',q⟩:=ih fuel (mi + 1) en (some (.int mi)) (by omega) (by omega) (by omega) h3 h5
    refine ⟨x',?_⟩
    rw [← q]
    refine zhp (Ω1:=Ω) (by simp [za2,hlt']) ?_
    rw [decide_eq_false hm] at hg
    unfold zby
    rw [zak st1]
    simp [h1,hat,hg]
  ·have e1:st=m:=by omega
   have e2:en=m:=by omega
   subst e1 e2
   exact ⟨x,by rw [zil (Ω1:=Ω) (by simp [za2])]⟩
theorem zc7 (lf:Addr) (g:A→Mo A) (a:A) (Ω:Sto) (r:Rs A × Sto) (h:noE (fwR g a) Ω=some r):fnF 5 (zbu lf g) [a, .adr lf] Ω=some r:=by
 have h':fwR g a Ω=some r:=by
  simp only [noE] at h
  revert h
  cases e:fwR g a Ω with
  | none=>intro h;cases h
  | some r0 =>
   obtain ⟨x,Ω'⟩:=r0
   cases x with
   | ok b=>intro h;exact h
   | exc b=>intro h;cases h
 obtain ⟨ds,m,h1,h2,h3,h4,rfl⟩:=zoK h'
 obtain ⟨x',q⟩:=zpU lf g a Ω ds m h1 h4 ds.length 1000000 0 ds.length none (by omega) (by omega) (by omega) h2 (Nat.le_refl _)
 simp only [Int.natCast_zero] at q
 show trim Ω (outR (zbu lf g [some a,some (.adr lf),none,none,none] Ω))=_
 unfold zbu
 rw [zak (ρ1:=[some a,some (.adr lf),some (.int 0),none,none]) (Ω':=Ω) (by simp)]
 rw [zak (ρ1:=[some a,some (.adr lf),some (.int 0),some (.int ds.length),none]) (Ω':=Ω) (by simp [h1])]
 rw [zak (ρ1:=[some a,some (.adr lf),some (.int m),some (.int m),x']) (Ω':=Ω) (f:=fun ρ Ω=>zdF (za2 lf g) (zby lf g) ((fun _ _=>1000000) ρ Ω) ρ Ω) q]
 simp
end M
namespace M
open PySem L2 V2
abbrev Nf (xs:List E):Prop:=xs.Pairwise fun a b=>a.1 ≤ b.1
theorem zpW {l s:Int}:∀ {es:List E} {lo hp:Int} {pr:Option Int},Ch l s lo hp pr es→Nf es∧(∀ e ∈ es,lo < e.2.1)∧(∀ p,pr=some p→∀ e ∈ es,p ≤ e.1)∧es.Pairwise (fun a b=>a.2.1 < b.2.1)
 | [],_,_,_,_=>⟨.nil,by simp,by simp, .nil⟩
 | e :: r,lo,hp,pr,h=>by
  obtain ⟨h1,_,h3,_,_,_,h7⟩:=h
  obtain ⟨a,b,c,d⟩:=zpW h7
  refine ⟨List.pairwise_cons.mpr ⟨fun x hx=>c e.1 rfl x hx,a⟩,fun x hx=>?_,fun p hp x hx=>?_,List.pairwise_cons.mpr ⟨b,d⟩⟩
  ·rcases List.mem_cons.mp hx with z | z
   ·subst z;exact h3
   ·have:=b x z;omega
  ·rcases List.mem_cons.mp hx with z | z
   ·subst z;exact h1 p hp
   ·have:=h1 p hp;have:=c e.1 rfl x z;omega
end M
namespace M
open PySem L2 V2
end M
namespace M
open PySem L2 V2
end M
namespace M
open PySem L2 V2
theorem znX {l s:Int}:∀ {es:List E} {lo hp:Int} {pr:Option Int},Ch l s lo hp pr es→(∀ e ∈ es,hp < e.2.2)∧es.Pairwise (fun a b=>a.2.2 < b.2.2)
 | [],_,_,_,_=>⟨by simp, .nil⟩
 | e :: r,lo,hp,pr,h=>by
  obtain ⟨_,_,_,h4,_,_,h7⟩:=h
  obtain ⟨a,b⟩:=znX h7
  refine ⟨fun x hx=>?_,List.pairwise_cons.mpr ⟨a,b⟩⟩
  rcases List.mem_cons.mp hx with z | z
  ·subst z;exact h4
  ·have:=a x z;omega
end M
namespace M
open PySem L2 V2
end M
namespace M
open PySem L2 V2
end M
namespace M
open PySem L2 V2
end M
namespace M
open PySem L2 V2
end M
namespace M
open PySem L2 V2
def sumS (ps:List Po):Int:=(ps.map fun p=>p.s).sum
structure Pile (i:Nat) (ps:List Po):Prop where
 ne:ps ≠ []
 gf:∀ p ∈ ps,GF p.s p.l p.d p.es
 le:lenE ps ≤ 2 * i
 ln:ps.length ≤ i + 1
 sz:sumS ps ≤ 1000000 * i
end M
namespace M
open PySem L2 V2
end M
namespace M
open PySem L2 V2
theorem zkh (s l d:Int) (ent:A) (es:List E) (i:Nat) (Ω:Sto) (hs:zaF Ω ent=some (encL es)) (h:i ≤ es.length):zaP [.tup [.int s, .int l, .int d,ent], .int i] Ω=some (.ok (.tup [.int (loE es i), .int (hiE s es i)]),Ω):=by
 have h2:(2:Nat) ≤ sizeLine:=by decide
 by_cases h0:i=0
 ·subst h0
  by_cases h1:es=[]
  ·subst h1
   simp [zaP,zb9,hs,encL,loE,hiE,h2]
  ·have hl:0 < es.length:=List.length_pos_iff.mpr h1
   have e1:atI (encL es) 0=some (encE es[0]):=by rw [show (0:Int)=((0:Nat):Int) by rfl,zbO,zcc,List.getElem?_eq_getElem hl];rfl
   simp [zaP,zb9,hs,e1,hl,loE,hiE,encE,h2]
 ·have hi1:i - 1 < es.length:=by omega
  have hp:0 < i:=by omega
  have e0:atI (encL es) ((i:Int) - 1)=some (encE es[i - 1]):=by rw [zhc _ _ hp,zcc,List.getElem?_eq_getElem hi1];rfl
  by_cases hl:i < es.length
  ·have e1:atI (encL es) (i:Int)=some (encE es[i]):=by rw [zbO,zcc,List.getElem?_eq_getElem hl];rfl
   simp [zaP,zb9,hs,e0,e1,hl,hp,loE,hiE,encE,h0,h2,hi1]
  ·have:i=es.length:=by omega
   subst this
   simp [zaP,zb9,hs,e0,hp,loE,hiE,encE,h0,h2,hi1]
end M
namespace M
open PySem L2 V2
theorem ziN {p:E→Bool}:∀ {es:List E},es.Pairwise (fun a b=>p a=true→p b=true)→∃ m,m ≤ es.length∧∀ (i:Nat) (e:E),es[i]? = some e→p e=decide (m ≤ i)
 | [],_=>⟨0,Nat.le_refl _,fun i e h=>by simp at h⟩
 | x :: xs,h=>by
  obtain ⟨h1,h2⟩:=List.pairwise_cons.mp h
  cases hx:p x with
  | true =>
   refine ⟨0,Nat.zero_le _,fun i e he=>?_⟩
   cases i with
   | zero=>simp at he;subst he;simp [hx]
   | succ i=>simp at he;simp [h1 e (List.mem_of_getElem? he) hx]
  | false =>
   obtain ⟨m,hm,q⟩:=ziN h2
   refine ⟨m + 1,by simp;omega,fun i e he=>?_⟩
   cases i with
   | zero=>simp at he;subst he;simp [hx]
   | succ i =>
    simp at he
    rw [q i e he]
    simp
theorem zl6 {s l d:Int} {es:List E} (h:GF s l d es) (b:Int):∃ m,m ≤ es.length∧∀ (i:Nat) (e:E),es[i]? = some e→decide (b < e.2.2)=decide (m ≤ i) :=
 ziN ((znX h.ch).2.imp fun {x y} hxy hx=>by simp at hx ⊢;omega)
end M
namespace M
open PySem L2 V2
def ah (x:Int) (also:Bool) (e:E):Bool:=decide (e.1 < x) || (also && decide (e.1=x))
theorem zny {s l d:Int} {es:List E} (h:GF s l d es) (x:Int) (also:Bool):∃ m,m ≤ es.length∧∀ (i:Nat) (e:E),es[i]? = some e→(!ah x also e)=decide (m ≤ i) :=
 ziN (p:=fun e=>!ah x also e) ((zpW h.ch).1.imp fun {a b} hab ha=>by
  have hab':a.1 ≤ b.1:=hab
  cases also <;> simp [ah] at ha ⊢ <;> omega)
end M
namespace M
open PySem L2 V2
theorem zjz {s l d:Int} {es:List E} (h:GF s l d es) (x:Int) (also:Bool) (m:Nat) (hm:m ≤ es.length) (hq:∀ (i:Nat) (e:E),es[i]? = some e→(!ah x also e)=decide (m ≤ i)) :
  hiE s es m - loE es m ≤ l∧0 ≤ loE es m∧0 ≤ hiE s es m:=by
 have hl:=h.l0
 have hs0:=h.s0
 cases m with
 | zero =>
  have h1:loE es 0=0:=rfl
  rw [h1]
  cases es with
  | nil =>
   have:=(zmH h).mpr rfl
   have h2:hiE s [] 0=s:=rfl
   rw [h2];omega
  | cons e r =>
   have f:=(h.fst e r rfl).2
   have h2:hiE s (e :: r) 0=e.2.2 - 1:=rfl
   rw [h2];omega
 | succ k =>
  have hk:k < es.length:=by omega
  rw [ziH es k hk]
  obtain ⟨c1,c2,c3,c4⟩:=zjX es 0 0 none k es[k] h.ch (List.getElem?_eq_getElem hk)
  have hlo:0 < es[k].2.1:=((zpW h.ch).2.1 es[k] (List.getElem_mem hk))
  by_cases hl2:k + 1 < es.length
  ·rw [zpp s es (k + 1) hl2]
   obtain ⟨f1,f2,f3,f4⟩:=c4 es[k + 1] (List.getElem?_eq_getElem hl2)
   rw [zhE] at f4
   have q1:=hq k es[k] (List.getElem?_eq_getElem hk)
   have q2:=hq (k + 1) es[k + 1] (List.getElem?_eq_getElem hl2)
   have n1:ah x also es[k]=true:=by
    have:¬ k + 1 ≤ k:=by omega
    rw [decide_eq_false this] at q1;simpa using q1
   have n2:ah x also es[k + 1]=false:=by
    rw [decide_eq_true (Nat.le_refl _)] at q2;simpa using q2
   have hne:es[k + 1].1 ≠ es[k].1:=fun z=>by
    unfold ah at n1 n2
    rw [z] at n2;rw [n1] at n2;cases n2
   rcases f4 with z | z
   ·exact absurd z hne
   ·omega
  ·have e:k + 1=es.length:=by omega
   rw [e,zna]
   obtain ⟨g1,g2⟩:=c3 e
   omega
end M
namespace M
open PySem L2 V2
def At (R:List Rn) (e:E) (p:Int):Prop:=und R e.1 < p∧p ≤ upt R e.1∧e.2.1 ≤ p∧p ≤ e.2.2
theorem zk7 {R:List Rn}:∀ {es:List E} {z:Int},Pl R z es→∃ ps:List Int,ps.length=es.length∧(∀ p ∈ ps,z < p)∧ps.Pairwise (· < ·)∧∀ (i:Nat) (e:E),es[i]? = some e→∃ p,ps[i]? = some p∧At R e p
 | [],_,_=>⟨[],rfl,(fun _ h=>by cases h),List.Pairwise.nil,(fun i e h=>by simp at h)⟩
 | e :: r,z,⟨p,h,q1,q2,q3,q4,q5⟩=>by
  obtain ⟨ps,a1,a2,a3,a4⟩:=zk7 q5
  refine ⟨p :: ps,by simp [a1],fun q hq=>?_,List.pairwise_cons.mpr ⟨fun q hq=>a2 q hq,a3⟩,fun i e' he=>?_⟩
  ·rcases List.mem_cons.mp hq with x | x
   ·rw [x];exact h
   ·have:=a2 q x;omega
  ·cases i with
   | zero=>simp at he;subst he;exact ⟨p,rfl,q1,q2,q3,q4⟩
   | succ i=>obtain ⟨p',b1,b2⟩:=a4 i e' (by simpa using he);exact ⟨p',by simpa using b1,b2⟩
theorem zrL {R:List Rn} {es:List E} {z:Int} (h:Pl R z es) {i:Nat} {e:E} (he:es[i]? = some e):∃ p,z < p∧At R e p:=by
 obtain ⟨ps,_,a2,_,a4⟩:=zk7 h
 obtain ⟨p,b1,b2⟩:=a4 i e he
 exact ⟨p,a2 p (List.mem_of_getElem? b1),b2⟩
def cntR (R:List Rn) (x:Int) (also:Bool):Int:=if also then upt R x else und R x
theorem bnd {R:List Rn} {p:Po} (h:Gd R p) (x:Int) (also:Bool) (m:Nat) (hm:m ≤ p.es.length) (hq:∀ (i:Nat) (e:E),p.es[i]? = some e→(!ah x also e)=decide (m ≤ i)) :
  loE p.es m ≤ cntR R x also∧cntR R x also ≤ hiE p.s p.es m∧0 ≤ loE p.es m:=by
 have hl:∀ (i:Nat) (e:E),p.es[i]? = some e→i < m→upt R e.1 ≤ cntR R x also:=fun i e he hi=>by
  have:=hq i e he
  have h2:decide (m ≤ i)=false:=by simp;omega
  rw [h2] at this
  unfold cntR
  cases also with
  | true =>
   have:e.1 ≤ x:=by simp [ah] at this;omega
   simp only [if_true]
   exact zlG h.tn this
  | false =>
   have:e.1 < x:=by simp [ah] at this;omega
   simp only [Bool.false_eq_true,if_false]
   exact zkD h.tn this
 have hh:∀ (i:Nat) (e:E),p.es[i]? = some e→m ≤ i→cntR R x also ≤ und R e.1:=fun i e he hi=>by
  have:=hq i e he
  have h2:decide (m ≤ i)=true:=by simp;omega
  rw [h2] at this
  unfold cntR
  cases also with
  | true =>
   have:x < e.1:=by simp [ah] at this;omega
   simp only [if_true]
   exact zkD h.tn this
  | false =>
   have:x ≤ e.1:=by simp [ah] at this;omega
   simp only [Bool.false_eq_true,if_false]
   exact zlE h.tn this
 have c0:0 ≤ cntR R x also:=by
  unfold cntR
  split
  ·exact Int.le_trans (zki h.tn x) (ziQ h.tn x)
  ·exact zki h.tn x
 refine ⟨?_,?_,?_⟩
 ·cases m with
  | zero=>simpa [loE] using c0
  | succ m =>
   rw [ziH _ _ (by omega)]
   obtain ⟨q,_,b1,b2,b3,b4⟩:=zrL h.pl (List.getElem?_eq_getElem (show m < p.es.length by omega))
   have:=hl m _ (List.getElem?_eq_getElem (by omega)) (by omega)
   omega
 ·by_cases hm':m < p.es.length
  ·rw [zpp _ _ _ hm']
   obtain ⟨q,_,b1,b2,b3,b4⟩:=zrL h.pl (List.getElem?_eq_getElem hm')
   have:=hh m _ (List.getElem?_eq_getElem hm') (Nat.le_refl _)
   omega
  ·have e:m=p.es.length:=by omega
   rw [e,zna,h.sz]
   unfold cntR
   split
   ·exact zdY h.tn x
   ·exact Int.le_trans (ziQ h.tn x) (zdY h.tn x)
 ·cases m with
  | zero=>simp [loE]
  | succ m =>
   rw [ziH _ _ (by omega)]
   have:=(zpF _ _ _ _ h.gf.ch _ (List.getElem_mem (show m < p.es.length by omega))).2.1
   omega
theorem zrj {R:List Rn} {p:Po} (h:Gd R p) (place:Int) (h1:1 ≤ place) (h2:place ≤ p.s) (m:Nat) (hm:m ≤ p.es.length) (hq:∀ (i:Nat) (e:E),p.es[i]? = some e→decide (place + (p.l + 1) / 2 < e.2.2)=decide (m ≤ i)) (e:E) (hm1:1 ≤ m) (he:p.es[m - 1]? = some e) :
  und R e.1 < upt R e.1∧und R e.1 + 1 - (p.l + 1) / 2 ≤ place∧place ≤ upt R e.1 + (p.l + 1) / 2:=by
 have hl0:=h.gf.l0
 obtain ⟨ps,a1,a2,a3,a4⟩:=zk7 h.pl
 obtain ⟨q,b0,b1,b2,b3,b4⟩:=a4 _ _ he
 have hi:=hq _ _ he
 have hi':e.2.2 ≤ place + (p.l + 1) / 2:=by
  have:decide (m ≤ m - 1)=false:=by simp;omega
  rw [this] at hi
  simpa using hi
 refine ⟨by omega,by omega,?_⟩
 by_cases hl:m < p.es.length
 ·have hf:p.es[m]? = some p.es[m]:=List.getElem?_eq_getElem hl
  obtain ⟨q',c0,c1,c2,c3,c4⟩:=a4 _ _ hf
  have hj:=hq _ _ hf
  rw [decide_eq_true (Nat.le_refl m)] at hj
  have hj':place + (p.l + 1) / 2 < p.es[m].2.2:=by simpa using hj
  obtain ⟨g1,g2,g3,g4⟩:=zjX p.es 0 0 none m _ h.gf.ch hf
  have hb:zfA p.l e p.es[m]=true:=((zjX p.es 0 0 none (m - 1) e h.gf.ch he).2.2.2 p.es[m] (by rw [show m - 1 + 1=m by omega];exact hf)).2.2.2
  rw [zhE] at hb
  rcases hb with hb | hb
  ·rw [hb] at c2;omega
  ·omega
 ·have hme:m=p.es.length:=by omega
  obtain ⟨g1,g2,g3,g4⟩:=zjX p.es 0 0 none (m - 1) _ h.gf.ch he
  have:=g3 (by omega)
  omega
end M
namespace M
open PySem L2 V2
abbrev zbm:Cell := .tab "upto" ⟨110,53,110,84⟩ (zgU "upto")
abbrev zbl:Cell := .tab "below" ⟨112,53,112,85⟩ (zgU "below")
abbrev zbn:Cell := .tab "so_manieth" ⟨118,40,118,73⟩ (zgU "so_manieth")
theorem znp {s l d:Int} {es:List E} (hz:es.length ≤ 1000) (x:Int) (m:Nat) (hm:m ≤ es.length) (hq:∀ (i:Nat) (e:E),es[i]? = some e→(!ah x true e)=decide (m ≤ i)) (ent:A) (Ω:Sto) (hT:Ω[0]? = some zbm) (hs:zaF Ω ent=some (encL es)) :
  zeP [.tup [.int s, .int l, .int d,ent], .int x] Ω=some (.ok (.tup [.int (loE es m), .int (hiE s es m)]),Ω):=by
 have hF:fwR (lamG zcr [x]) ent Ω=some (.ok (.int (m:Int)),Ω):=by
  refine znZ hs (by simpa using hm) (by simp;omega) fun i a ha=>?_
  rw [zcc] at ha
  cases e:es[i]? with
  | none=>rw [e] at ha;cases ha
  | some z =>
   rw [e] at ha
   cases ha
   have:=hq i z e
   rw [← this]
   simp only [lamG,noE,zcr,ah]
   by_cases h1:z.1 < x
   ·have h2:¬ x < z.1:=by omega
    simp [encE,h1,h2]
   ·by_cases h3:z.1=x
    ·have h2:¬ x < z.1:=by omega
     simp [encE,h1,h2,h3]
    ·have h2:x < z.1:=by omega
     simp [encE,h1,h2,h3]
 have b:=zkh s l d ent es m Ω hs hm
 have hfw:vFW 0 "upto" ⟨110,53,110,84⟩ (zgU "upto") [1] (fun ns a=>fwR (lamG zcr ns) a) (vOp gIx (vVar 0) (cI 3)) [some (.tup [.int s, .int l, .int d,ent]),some (.int x)] Ω=some (.ok (.int (m:Int)),Ω):=by
  simp only [vFW]
  rw [zke (x:=ent) (Ω':=Ω) (by simp)]
  rw [if_pos hT]
  simp only [zhZ,noE]
  show (match (fwR (lamG zcr [x]) ent Ω) with
   | some (.exc _,_)=>none
   | r=>r)=_
  rw [hF]
 show trim Ω (outR (zhq [some (.tup [.int s, .int l, .int d,ent]),some (.int x)] Ω))=_
 unfold zhq
 simp [hfw,b]
theorem zmh {s l d:Int} {es:List E} (hz:es.length ≤ 1000) (x:Int) (m:Nat) (hm:m ≤ es.length) (hq:∀ (i:Nat) (e:E),es[i]? = some e→(!ah x false e)=decide (m ≤ i)) (ent:A) (Ω:Sto) (hT:Ω[1]? = some zbl) (hs:zaF Ω ent=some (encL es)) :
  zdW [.tup [.int s, .int l, .int d,ent], .int x] Ω=some (.ok (.tup [.int (loE es m), .int (hiE s es m)]),Ω):=by
 have hF:fwR (lamG zb3 [x]) ent Ω=some (.ok (.int (m:Int)),Ω):=by
  refine znZ hs (by simpa using hm) (by simp;omega) fun i a ha=>?_
  rw [zcc] at ha
  cases e:es[i]? with
  | none=>rw [e] at ha;cases ha
  | some z =>
   rw [e] at ha
   cases ha
   have:=hq i z e
   rw [← this]
   simp only [lamG,noE,zb3,ah]
   by_cases h1:z.1 < x
   ·have h2:¬ x ≤ z.1:=by omega
    simp [encE,h1,h2]
   ·have h2:x ≤ z.1:=by omega
    simp [encE,h1,h2]
 have b:=zkh s l d ent es m Ω hs hm
 have hfw:vFW 1 "below" ⟨112,53,112,85⟩ (zgU "below") [1] (fun ns a=>fwR (lamG zb3 ns) a) (vOp gIx (vVar 0) (cI 3)) [some (.tup [.int s, .int l, .int d,ent]),some (.int x)] Ω=some (.ok (.int (m:Int)),Ω):=by
  simp only [vFW]
  rw [zke (x:=ent) (Ω':=Ω) (by simp)]
  rw [if_pos hT]
  simp only [zhZ,noE]
  show (match (fwR (lamG zb3 [x]) ent Ω) with
   | some (.exc _,_)=>none
   | r=>r)=_
  rw [hF]
 show trim Ω (outR (zgu [some (.tup [.int s, .int l, .int d,ent]),some (.int x)] Ω))=_
 unfold zgu
 simp [hfw,b]
theorem zqt {s l d:Int} {es:List E} (h:GF s l d es) (place:Int) (h1:1 ≤ place) (h2:place ≤ s) (hz:es.length ≤ 1000) (m:Nat) (hm:m ≤ es.length) (hq:∀ (i:Nat) (e:E),es[i]? = some e→decide (place + (l + 1) / 2 < e.2.2)=decide (m ≤ i)) (ent:A) (Ω:Sto) (hT:Ω[2]? = some zbn) (hs:zaF Ω ent=some (encL es)) :
  ∃ e,1 ≤ m∧es[m - 1]? = some e∧zbJ [.tup [.int s, .int l, .int d,ent], .int place] Ω=some (.ok (.int e.1),Ω):=by
 have hne:es ≠ []:=fun z=>by
  have:=(zmH h).mpr z
  omega
 have hl0:=h.l0
 have hm1:1 ≤ m:=by
  cases es with
  | nil=>exact absurd rfl hne
  | cons x r =>
   have f:=(h.fst x r rfl).2
   have q:=hq 0 x rfl
   have:¬ place + (l + 1) / 2 < x.2.2:=by omega
   rw [decide_eq_false this] at q
   simp at q;omega
 have hlt:m - 1 < es.length:=by omega
 refine ⟨es[m - 1],hm1,List.getElem?_eq_getElem hlt,?_⟩
 have hd2:∀ j,CDiv j 2:=fun j=>⟨by decide,by decide⟩
 have n1:¬ place < 1:=by omega
 have n2:¬ s < place:=by omega
 have hF:fwR (lamG za1 [place + (l + 1) / 2]) ent Ω=some (.ok (.int (m:Int)),Ω):=by
  refine znZ hs (by simpa using hm) (by simp;omega) fun i a ha=>?_
  rw [zcc] at ha
  cases e:es[i]? with
  | none=>rw [e] at ha;cases ha
  | some z =>
   rw [e] at ha
   cases ha
   have:=hq i z e
   rw [← this]
   simp [za1,encE]
 have hat:atI (encL es) ((m:Int) - 1)=some (encE es[m - 1]):=by rw [zhc _ _ (by omega),zcc,List.getElem?_eq_getElem hlt];rfl
 have hfw:∀ x3,vFW 2 "so_manieth" ⟨118,40,118,73⟩ (zgU "so_manieth") [3] (fun ns a=>fwR (lamG za1 ns) a) (vVar 2) [x3,some (.int place),some ent,some (.int (place + (l + 1) / 2))] Ω=some (.ok (.int (m:Int)),Ω):=by
  intro x3
  simp only [vFW]
  rw [zke (x:=ent) (Ω':=Ω) (by simp)]
  rw [if_pos hT]
  simp only [zhZ]
  simp only [noE]
  show (match (fwR (lamG za1 [place + (l + 1) / 2]) ent Ω) with
   | some (.exc _,_)=>none
   | r=>r)=_
  rw [hF]
 have he0:zaF Ω (encE es[m - 1])=some [.int es[m - 1].1, .int es[m - 1].2.1, .int es[m - 1].2.2]:=rfl
 show trim Ω (outR (zdG [some (.tup [.int s, .int l, .int d,ent]),some (.int place),none,none] Ω))=_
 unfold zdG
 rw [zak (ρ1:=[some (.tup [.int s, .int l, .int d,ent]),some (.int place),none,none]) (Ω':=Ω) (by simp [n1,n2])]
 rw [zak (ρ1:=[some (.tup [.int s, .int l, .int d,ent]),some (.int place),some ent,none]) (Ω':=Ω) (by simp)]
 rw [zak (ρ1:=[some (.tup [.int s, .int l, .int d,ent]),some (.int place),some ent,some (.int (place + (l + 1) / 2))]) (Ω':=Ω) (by simp [hd2])]
 simp [hfw,hs,hat,he0]
structure T85 (Ω:Sto):Prop where
 u:Ω[0]? = some zbm
 b:Ω[1]? = some zbl
 s:Ω[2]? = some zbn
theorem zsW {R:List Rn} {p:Po} (h:Gd R p) (hz:p.es.length ≤ 1000) (x:Int):∃ lo hi:Int,0 ≤ lo∧lo ≤ upt R x∧upt R x ≤ hi∧hi - lo ≤ p.l∧∀ Ω,T85 Ω→zeP [encQ p, .int x] Ω=some (.ok (.tup [.int lo, .int hi]),Ω):=by
 obtain ⟨m,hm,hq⟩:=zny h.gf x true
 obtain ⟨b1,b2,b3⟩:=bnd h x true m hm hq
 obtain ⟨c1,_,_⟩:=zjz h.gf x true m hm hq
 exact ⟨_,_,b3,b1,b2,c1,fun Ω T=>znp hz x m hm hq (.lst (encL p.es)) Ω T.u rfl⟩
theorem zp0 {R:List Rn} {p:Po} (h:Gd R p) (hz:p.es.length ≤ 1000) (x:Int):∃ lo hi:Int,0 ≤ lo∧lo ≤ und R x∧und R x ≤ hi∧hi - lo ≤ p.l∧∀ Ω,T85 Ω→zdW [encQ p, .int x] Ω=some (.ok (.tup [.int lo, .int hi]),Ω):=by
 obtain ⟨m,hm,hq⟩:=zny h.gf x false
 obtain ⟨b1,b2,b3⟩:=bnd h x false m hm hq
 obtain ⟨c1,_,_⟩:=zjz h.gf x false m hm hq
 exact ⟨_,_,b3,b1,b2,c1,fun Ω T=>zmh hz x m hm hq (.lst (encL p.es)) Ω T.b rfl⟩
end M
namespace M
open PySem L2 V2
theorem znm (f:Nat→Bool):∀ m i,fbF f m i=none→∀ j,i ≤ j→j < i + m→f j=true
 | 0,_,_,j,a,b=>by omega
 | m + 1,i,h,j,a,b=>by
  unfold fbF at h
  split at h
  ·rename_i c
   by_cases e:j=i
   ·rw [e];exact c
   ·exact znm f m (i + 1) h j (by omega) (by omega)
  ·cases h
theorem ztp {s l:Int} {es:List E} {i:Nat} (hi:i < es.length) (h:oks s l es i=true):okE s l es.length i (es[i - 1]'(by omega)) es[i]:=by
 unfold oks at h
 rw [dif_pos hi] at h
 simpa using h
theorem ztd {s l:Int} (es:List E) (h:∀ i (hi:i < es.length),okE s l es.length i (es[i - 1]'(by omega)) es[i]):∀ (m i:Nat) (hi:0 < i) (hm:i + m=es.length),Ch l s (es[i - 1]'(by omega)).2.1 (es[i - 1]'(by omega)).2.2 (some (es[i - 1]'(by omega)).1) (es.drop i)
 | 0,i,hi,hm=>by
  have e:es.drop i=[]:=List.drop_of_length_le (by omega)
  rw [e]
  have q:=h (i - 1) (by omega)
  have:=q.2.1 (by omega)
  exact this
 | m + 1,i,hi,hm=>by
  have hlt:i < es.length:=by omega
  have e:es.drop i=es[i] :: es.drop (i + 1):=List.drop_eq_getElem_cons hlt
  rw [e]
  obtain ⟨q1,q2,q3,q4⟩:=h i hlt
  obtain ⟨a1,a2⟩:=q4 (by omega)
  have ih:=ztd es h m (i + 1) (by omega) (by omega)
  refine ⟨fun p hp=>by cases hp;exact a1.1,?_,a1.2.1,a1.2.2,q3.1,q3.2,ih⟩
  unfold zfA at a2
  simp only [Bool.or_eq_true,decide_eq_true_eq] at a2
  rcases a2 with z | z
  ·exact .inl (by rw [z])
  ·exact .inr z
theorem zr1 {s l d:Int} {es:List E} (h:fbP s l d es=none):GF s l d es:=by
 unfold fbP at h
 split at h
 ·rename_i hb
  unfold zhX at hb
  simp only [Bool.and_eq_true,Bool.not_eq_true',Bool.or_eq_false_iff,decide_eq_false_iff_not,beq_iff_eq] at hb
  obtain ⟨⟨⟨b1,b2⟩,b3⟩,b4⟩:=hb
  have hall:∀ i (hi:i < es.length),okE s l es.length i (es[i - 1]'(by omega)) es[i]:=fun i hi=>ztp hi (znm _ _ _ h i (Nat.zero_le _) (by omega))
  cases es with
  | nil =>
   have:s=0:=by simpa using b4
   exact ⟨by omega,by omega,by omega,fun e r he=>(by cases he),by subst this;exact ⟨rfl,rfl⟩⟩
  | cons e r =>
   obtain ⟨q1,q2,q3,q4⟩:=hall 0 (by simp)
   have f:=q1 rfl
   simp only [List.getElem_cons_zero] at f q3
   have c:=ztd (e :: r) hall r.length 1 (by omega) (by simp;omega)
   simp only [Nat.sub_self,List.getElem_cons_zero,List.drop_succ_cons,List.drop_zero] at c
   refine ⟨by omega,by omega,by omega,fun e' r' he=>by cases he;exact f,⟨fun p hp=>(by cases hp), .inr (by omega),by omega,by omega,q3.1,q3.2,c⟩⟩
 ·cases h
theorem zpC {R:List Rn}:∀ (es:List E) (k:Nat) (z:Int),wrF R k z es=none→Pl R z es
 | [],_,_,_=>trivial
 | e :: es,k,z,h=>by
  unfold wrF at h
  split at h
  ·cases h
  ·rename_i c
   have ih:=zpC es _ _ h
   exact ⟨max (z + 1) (max e.2.1 (und R e.1 + 1)),by omega,by omega,by omega,by omega,by omega,ih⟩
theorem zsk {R:List Rn} {p:Po} (hT:Tn R) (h:dueW R p = .good):Gd R p:=by
 unfold dueW at h
 split at h
 ·cases h
 ·split at h
  ·cases h
  ·rename_i hf
   split at h
   ·rename_i hs
    split at h
    ·cases h
    ·rename_i hw
     exact ⟨hT,zr1 hf,hs,zpC _ _ _ hw⟩
   ·cases h
end M
namespace M
open PySem L2 V2
theorem zlp (lo hi c s:Int) (h1:lo ≤ c) (h2:c ≤ hi) (h3:hi - lo ≤ s) (Ω:Sto):zb5 [.tup [.int lo, .int hi], .int c, .int s] Ω=some (.ok (.bl true),Ω):=by
 simp [zb5,zfM,h1,h2,h3]
theorem ziB (L:List Int) (a b:Nat):cutA (L.map A.int) (some (a:Int)) (some (b:Int))=((L.drop (min a L.length)).take (min b L.length - min a L.length)).map A.int:=by
 unfold cutA
 rw [HT.zkX,HT.zkX]
 simp
theorem zpO (L:List Int) (a b i:Nat) (h:i < L.length) (h1:a ≤ i) (h2:i < b):L[i] ∈ (L.drop (min a L.length)).take (min b L.length - min a L.length):=by
 rw [List.mem_iff_getElem?]
 refine ⟨i - min a L.length,?_⟩
 rw [List.getElem?_take_of_lt (by omega),List.getElem?_drop]
 rw [show min a L.length + (i - min a L.length)=i by omega]
 exact List.getElem?_eq_getElem h
theorem zqu (n:Int) (L:List Int) (h:n ∈ L) (Ω:Sto):gMem true (.int n) (.lst (L.map A.int)) Ω=some (.ok (.bl false),Ω):=by
 have h1:=zjf L
 have h2:pur 8 (.int n)=true:=rfl
 have h3:pur 7 (.int n)=true:=rfl
 have ha:((L.map A.int).any fun d=>eqA 7 d (.int n))=true:=by
  rw [List.any_eq_true]
  exact ⟨.int n,List.mem_map_of_mem h,by simp [eqA]⟩
 unfold gMem
 rw [zb6 h1,zb6 h2]
 simp [h1,h3,ha]
theorem zox {R:List Rn} {p:Po} (h:Gd R p) (hl:R.length ≤ 1000) (hz:p.es.length ≤ 1000) (x:Int) (Ω:Sto) (T:T85 Ω) (x1 x4 x5 x6:Option A) :
  zcO [some (.lst (zaf R)),x1,some (encQ p),some (.int x),x4,x5,x6] Ω=some (.nx,[some (.lst (zaf R)),x1,some (encQ p),some (.int x),x4,x5,x6],Ω):=by
 have hsq:∀ Ω,zaF Ω (encQ p)=some [.int p.s, .int p.l, .int p.d, .lst (encL p.es)]:=fun _=>rfl
 obtain ⟨a,b,a1,a2,a3,a4,a5⟩:=zp0 h hz x
 obtain ⟨c,d,c1,c2,c3,c4,c5⟩:=zsW h hz x
 have m1:=zo7 R x hl Ω
 have m2:=znW R x hl Ω
 have w1:=zlp c d (upt R x) p.l c2 c3 c4 Ω
 have w2:=zlp a b (und R x) p.l a2 a3 a4 Ω
 have u:=c5 Ω T
 have v:=a5 Ω T
 simp [zcO,zaz,u,v,m1,m2,hsq,w1,w2]
theorem zok {R:List Rn} {p:Po} (h:Gd R p) (hz:p.es.length ≤ 1000) (place:Int) (h1:1 ≤ place) (h2:place ≤ p.s) (Ω:Sto) (T:T85 Ω) (x0 x3 x6:Option A):∃ y3 y6,
  zcL [x0,some (.lst ((zaD R).map A.int)),some (encQ p),x3,some (.int ((p.l + 1) / 2)),some (.int place),x6] Ω=some (.nx,[x0,some (.lst ((zaD R).map A.int)),some (encQ p),y3,some (.int ((p.l + 1) / 2)),some (.int place),y6],Ω):=by
 obtain ⟨m,hm,hq⟩:=zl6 h.gf (place + (p.l + 1) / 2)
 obtain ⟨e,hm1,he,so⟩:=zqt h.gf place h1 h2 hz m hm hq (.lst (encL p.es)) Ω T.s rfl
 have so:zbJ [encQ p, .int place] Ω=some (.ok (.int e.1),Ω):=so
 obtain ⟨g1,g2,g3⟩:=zrj h place h1 h2 m hm hq e hm1 he
 have hl0:=h.gf.l0
 have hlen:=zfD h.tn
 have hs:=h.sz
 have hu:=zdY h.tn e.1
 have hn:=zki h.tn e.1
 generalize hhalf:(p.l + 1) / 2=half at g2 g3 ⊢
 have hh0:0 ≤ half:=by omega
 obtain ⟨i,hi⟩:=Int.eq_ofNat_of_zero_le (show 0 ≤ max (place - half) (und R e.1 + 1) - 1 by omega)
 have hi2:i < (zaD R).length:=by omega
 have na:=(zmZ h.tn e.1 i hi2).mpr ⟨by omega,by omega⟩
 obtain ⟨a,ha⟩:=Int.eq_ofNat_of_zero_le (show 0 ≤ max 0 (place - half - 1) by omega)
 obtain ⟨b,hb⟩:=Int.eq_ofNat_of_zero_le (show 0 ≤ place + half by omega)
 have mc:=zpO (zaD R) a b i hi2 (by omega) (by omega)
 rw [na] at mc
 have cu:=ziB (zaD R) a b
 have gm:=zqu e.1 _ mc Ω
 generalize ((zaD R).drop (min a (zaD R).length)).take (min b (zaD R).length - min a (zaD R).length)=W at cu gm
 refine ⟨some (.int e.1),some (.lst (W.map A.int)),?_⟩
 unfold zcL
 rw [zak (ρ1:=[x0,some (.lst ((zaD R).map A.int)),some (encQ p),some (.int e.1),some (.int half),some (.int place),x6]) (Ω':=Ω) (by simp [zaz,so])]
 rw [zak (ρ1:=[x0,some (.lst ((zaD R).map A.int)),some (encQ p),some (.int e.1),some (.int half),some (.int place),some (.lst (W.map A.int))]) (Ω':=Ω) (by
  generalize (zaD R).map A.int=NL at cu
  simp [ha,hb,cu])]
 simp [gm]
theorem zqi {R:List Rn} {p:Po} (h:Gd R p) (hl:R.length ≤ 1000) (hz:p.es.length ≤ 1000) (hw:whole R ≤ 1000) (Ω:Sto) (T:T85 Ω):zdc [.lst (zaf R), .lst ((zaD R).map A.int),encQ p] Ω=some (.ok (.bl true),Ω):=by
 have hsq:∀ Ω,zaF Ω (encQ p)=some [.int p.s, .int p.l, .int p.d, .lst (encL p.es)]:=fun _=>rfl
 have d2:CDiv (p.l + 1) 2:=⟨by decide,by decide⟩
 have hlen:=zfD h.tn
 have hs:=h.sz
 have hs0:=h.gf.s0
 obtain ⟨ρ1,Ω1,e1,x3,rfl,rfl⟩:=zg3 (ok:=fun _=>True) (g:=gN 3) (b:=zcO)
  (fun i ρ Ω'=>∃ (x3:Option A),ρ=[some (.lst (zaf R)),some (.lst ((zaD R).map A.int)),some (encQ p),x3,none,none,none]∧Ω'=Ω) (fun _ _ _ _=>trivial)
  ((List.range 8).map fun (i:Nat)=>A.int (-1 + (i:Int))) 0 [some (.lst (zaf R)),some (.lst ((zaD R).map A.int)),some (encQ p),none,none,none,none] Ω ⟨none,rfl,rfl⟩
  (by
   rintro i x ρ Ω' hx ⟨x3,rfl,rfl⟩
   obtain ⟨k,_,rfl⟩:=List.mem_map.mp (List.mem_of_getElem? hx)
   exact ⟨_,_,_,_,rfl, .inl (zox h hl hz (-1 + (k:Int)) Ω' T _ none none none),_,rfl,rfl⟩)
 obtain ⟨ρ2,Ω2,e2,y3,y5,y6,rfl,hΩ⟩:=zg3 (ok:=fun _=>True) (g:=gN 5) (b:=zcL)
  (fun i ρ Ω'=>∃ (y3 y5 y6:Option A),ρ=[some (.lst (zaf R)),some (.lst ((zaD R).map A.int)),some (encQ p),y3,some (.int ((p.l + 1) / 2)),y5,y6]∧Ω'=Ω1) (fun _ _ _ _=>trivial)
  ((List.range p.s.toNat).map fun (i:Nat)=>A.int (1 + (i:Int))) 0 [some (.lst (zaf R)),some (.lst ((zaD R).map A.int)),some (encQ p),x3,some (.int ((p.l + 1) / 2)),none,none] Ω1 ⟨x3,none,none,rfl,rfl⟩
  (by
   rintro i x ρ Ω' hx ⟨y3,y5,y6,rfl,rfl⟩
   obtain ⟨k,hk,rfl⟩:=List.mem_map.mp (List.mem_of_getElem? hx)
   have hk:=List.mem_range.mp hk
   obtain ⟨w3,w6,q⟩:=zok h hz (1 + (k:Int)) (by omega) (by omega) Ω' T (some (.lst (zaf R))) y3 y6
   exact ⟨_,_,_,_,rfl, .inl q,_,_,_,rfl,rfl⟩)
 rw [hΩ] at e2
 have hlen2:(((zaD R).map A.int).length:Int)=p.s:=by rw [List.length_map];omega
 have en:(p.s + 1 - 1).toNat=p.s.toNat:=by omega
 show trim Ω1 (outR (zeJ [some (.lst (zaf R)),some (.lst ((zaD R).map A.int)),some (encQ p),none,none,none,none] Ω1))=_
 unfold zeJ
 rw [zak (ρ1:=[some (.lst (zaf R)),some (.lst ((zaD R).map A.int)),some (encQ p),x3,none,none,none]) (Ω':=Ω1) (by
  rw [forO (zpY (i:=-1) (j:=7) (Ω':=Ω1) (by simp) (by unfold za6;omega))]
  exact e1)]
 rw [zak (ρ1:=[some (.lst (zaf R)),some (.lst ((zaD R).map A.int)),some (encQ p),x3,some (.int ((p.l + 1) / 2)),none,none]) (Ω':=Ω1) (by simp [hsq,d2])]
 rw [zak (ρ1:=[some (.lst (zaf R)),some (.lst ((zaD R).map A.int)),some (encQ p),y3,some (.int ((p.l + 1) / 2)),y5,y6]) (Ω':=Ω1) (by
  generalize (zaD R).map A.int=NL at e2 hlen2 ⊢
  rw [forO (zpY (i:=1) (j:=p.s + 1) (Ω':=Ω1) (by simp [hlen2]) (by unfold za6;omega))]
  show fFor _ _ _ ((List.range (p.s + 1 - 1).toNat).map fun (i:Nat)=>A.int (1 + (i:Int))) _ _=_
  rw [en]
  exact e2)]
 simp
end M
namespace M
open PySem L2 V2
theorem zoI (es:List E) (n:Nat):(encL es).drop n=encL (es.drop n):=by simp [encL]
theorem znH (es:List E) (n:Nat) (h:n ≤ es.length):cutA (encL es) (some (n:Int)) none=encL (es.drop n):=by
 have hl:n ≤ (encL es).length:=by simp [encL];omega
 unfold cutA;rw [HT.zo0,HT.zkX,Nat.min_eq_left hl]
 rw [List.take_of_length_le (by simp),zoI]
end M
namespace M
open PySem L2 V2
def zgP (e:E):Prop:=(-100 ≤ e.2.1∧e.2.1 ≤ 1000)∧(-100 ≤ e.2.2∧e.2.2 ≤ 1000)
theorem at4 (x y z w:Int) (k:Int) (hk:0 ≤ k) (hk2:k < 4):∃ v,(v=x∨v=y∨v=z∨v=w)∧atI [A.int x, .int y, .int z, .int w] k=some (.int v):=by
 have hm:k=0∨k=1∨k=2∨k=3:=by omega
 rcases hm with e | e | e | e <;> subst e
 ·exact ⟨x, .inl rfl,rfl⟩
 ·exact ⟨y, .inr (.inl rfl),rfl⟩
 ·exact ⟨z, .inr (.inr (.inl rfl)),rfl⟩
 ·exact ⟨w, .inr (.inr (.inr rfl)),rfl⟩
theorem znD (L:List Int) (pl c:Int) (hc:0 ≤ c) (h1:1 ≤ pl) (h2:pl ≤ L.length) (hL:L.length ≤ 900) (Ω:Sto):∃ e:E,zgP e∧zdP [.lst (L.map A.int), .int pl, .int c] Ω=some (.ok (encE e),Ω):=by
 have s2:(2:Nat) ≤ sizeLine:=by decide
 have s3:(3:Nat) ≤ sizeLine:=by decide
 have s4:(4:Nat) ≤ sizeLine:=by decide
 have dv:∀ k:Int,0 < k→k < 2 ^ 30→CDiv c k:=fun k h h'=>⟨by omega,by omega⟩
 have d4:CDiv c 4:=⟨by decide,by decide⟩
 have d16:CDiv c 16:=⟨by decide,by decide⟩
 have d64:CDiv c 64:=⟨by decide,by decide⟩
 have d256:CDiv c 256:=⟨by decide,by decide⟩
 have d2048:CDiv c 2048:=⟨by decide,by decide⟩
 have d4096:CDiv c 4096:=⟨by decide,by decide⟩
 have d32768:CDiv c 32768:=⟨by decide,by decide⟩
 have d98304:CDiv c 98304:=⟨by decide,by decide⟩
 obtain ⟨i,hi⟩:=Int.eq_ofNat_of_zero_le (show 0 ≤ pl - 1 by omega)
 have hi2:i < L.length:=by omega
 have hat:atI (L.map A.int) (pl - 1)=some (.int L[i]):=by rw [hi,zbO];simp [hi2]
 generalize L[i]=n at hat
 generalize L.map A.int=NL at hat
 obtain ⟨a,ha,qa⟩:=at4 0 0 1 (c / 4 % 4) (c % 4) (by omega) (by omega)
 obtain ⟨b,hb,qb⟩:=at4 0 0 1 (c / 16 % 4) (c / 64 % 4) (by omega) (by omega)
 have ha2:0 ≤ a∧a ≤ 3:=by omega
 have hb2:0 ≤ b∧b ≤ 3:=by omega
 obtain ⟨t,ht⟩ : ∃ t:Int,atI [A.int 1, .int (-1)] (c / 2048 % 2)=some (.int t):=by
  have hq:c / 2048 % 2=0∨c / 2048 % 2=1:=by omega
  rcases hq with q | q <;> rw [q]
  ·exact ⟨1,rfl⟩
  ·exact ⟨-1,rfl⟩
 have fin:∀ (n':Int),∃ e:E,zgP e∧outR (sSeq (sIf (zay (vOp gEq (vOp (gMod) (vOp (gDiv) (vVar 2) (cI 4096)) (cI 8)) (cI 0)))
   (sSeq (sAsg (vOp (gSub) (vOp (gAdd false) (vVar 4) (vOp (gMod) (vOp (gDiv) (vVar 2) (cI 32768)) (cI 3))) (cI 1)) (gN 4))
   (sAsg (vOp (gSub) (vOp (gAdd false) (vVar 5) (vOp (gMod) (vOp (gDiv) (vVar 2) (cI 98304)) (cI 3))) (cI 1)) (gN 5)))
   sNx)
  (sRet (vTup (zad (vVar 3) (zad (vVar 4) (zad (vVar 5) a0))))) [some (.lst NL),some (.int pl),some (.int c),some (.int n'),some (.int (pl - a)),some (.int (pl + b))] Ω)=some (.ok (encE e),Ω):=by
  intro n'
  by_cases c1:c / 4096 % 8=0
  ·exact ⟨(n',pl - a + c / 32768 % 3 - 1,pl + b + c / 98304 % 3 - 1),by unfold zgP;simp only;omega,by simp [c1,d4096,d32768,d98304,s3,encE]⟩
  ·exact ⟨(n',pl - a,pl + b),by unfold zgP;simp only;omega,by simp [c1,d4096,s3,encE]⟩
 have main:∃ e:E,zgP e∧outR (zdM [some (.lst NL),some (.int pl),some (.int c),none,none,none] Ω)=some (.ok (encE e),Ω):=by
  unfold zdM
  rw [zak (ρ1:=[some (.lst NL),some (.int pl),some (.int c),some (.int n),none,none]) (Ω':=Ω) (by simp [hat])]
  rw [zak (ρ1:=[some (.lst NL),some (.int pl),some (.int c),some (.int n),some (.int (pl - a)),none]) (Ω':=Ω) (by simp [d4,s4,qa])]
  rw [zak (ρ1:=[some (.lst NL),some (.int pl),some (.int c),some (.int n),some (.int (pl - a)),some (.int (pl + b))]) (Ω':=Ω) (by simp [d16,d64,s4,qb])]
  by_cases c1:c / 256 % 8=0
  ·rw [zak (ρ1:=[some (.lst NL),some (.int pl),some (.int c),some (.int (n + t)),some (.int (pl - a)),some (.int (pl + b))]) (Ω':=Ω) (by simp [c1,d256,d2048,s2,ht])]
   exact fin _
  ·rw [zak (ρ1:=[some (.lst NL),some (.int pl),some (.int c),some (.int n),some (.int (pl - a)),some (.int (pl + b))]) (Ω':=Ω) (by simp [c1,d256])]
   exact fin _
 obtain ⟨e,he,q⟩:=main
 refine ⟨e,he,?_⟩
 show trim Ω (outR (zdM [some (.lst NL),some (.int pl),some (.int c),none,none,none] Ω))=_
 rw [q];simp
theorem zmY (x y z:Int) (es:List E) (k:Nat) (Ω:Sto) (g:Ω[k]? = some (.lst (encL es))):∃ b,gMem true (.tup [.int x, .int y, .int z]) (.cel k) Ω=some (.ok (.bl b),Ω):=by
 have p1:pur 8 (.lst (encL es))=true:=by
  simp only [pur,List.all_eq_true]
  intro a ha
  obtain ⟨e,_,rfl⟩:=List.mem_map.mp ha
  simp [encE,pur]
 have r1:res Ω 6 (.cel k)=some (.lst (encL es)):=by rw [zi2 g,zg7 _ (zi8 7 es)];rfl
 have h2:pur 8 (.tup [.int x, .int y, .int z])=true:=rfl
 have h3:pur 7 (.tup [.int x, .int y, .int z])=true:=rfl
 exact ⟨!((encL es).any fun d=>eqA 7 d (.tup [.int x, .int y, .int z])),by
  unfold gMem
  rw [r1,zb6 h2]
  simp only [h3,p1,Bool.and_self,if_true]⟩
theorem zf1 (L:List Int) (hL:L.length ≤ 900) (ok:Sto→Prop) (hok:∀ Ω,ok Ω) (D:A) (en:Option A) (Ω:Sto):∀ (cs:List Int) (es:List E) (pl:Int) (x5:Option A),(∀ c ∈ cs,0 ≤ c)→0 ≤ pl→(∀ e ∈ es,zgP e)→es.length + cs.length ≤ 900 →
  ∃ es' pl' y5,(∀ e ∈ es',zgP e)∧es'.length ≤ es.length + cs.length∧fFor ok (gN 5) zbR (cs.map A.int) [some D,some (.lst (L.map A.int)),en,some (.cel Ω.length),some (.int pl),x5] (Ω ++ [.lst (encL es)])
   = some (.nx,[some D,some (.lst (L.map A.int)),en,some (.cel Ω.length),some (.int pl'),y5],Ω ++ [.lst (encL es')])
 | [],es,pl,x5,_,_,he,_=>⟨es,pl,x5,he,by simp,by simp [fFor,hok]⟩
 | c :: cs,es,pl,x5,hc,hp,he,hl=>by
  simp only [List.length_cons] at hl
  have hc0:=hc c (List.mem_cons_self ..)
  have s4:(4:Nat) ≤ sizeLine:=by decide
  have d9:CDiv c 9:=⟨by decide,by decide⟩
  have d36:CDiv c 36:=⟨by decide,by decide⟩
  obtain ⟨a,ha,qa⟩:=at4 0 0 1 (c % 9) (c / 9 % 4) (by omega) (by omega)
  have ha2:0 ≤ a:=by omega
  have hlen:(((L.map A.int).length:Nat):Int)=L.length:=by simp
  have hI:isL (Ω ++ [.lst (encL es)]) (.cel Ω.length):=zjw (zbo (ds:=encL es) (by simp))
  have hcl:zgS (Ω ++ [.lst (encL es)]) (.cel Ω.length)=some (Ω.length,encL es):=zeB (by simp)
  have hz:es.length < sizeLine:=by rw [sizeLine_eq];omega
  by_cases h:pl + 1 + a ≤ L.length
  ·obtain ⟨e,he1,he2⟩:=znD L (pl + 1 + a) (c / 36) (by omega) (by omega) h hL (Ω ++ [.lst (encL es)])
   obtain ⟨es',pl',y5,r1,r2,r3⟩:=zf1 L hL ok hok D en Ω cs (es ++ [e]) (pl + 1 + a) (some (.int c)) (fun q hq=>hc q (List.mem_cons_of_mem _ hq)) (by omega) (fun q hq=>by
    rcases List.mem_append.mp hq with z | z
    ·exact he q z
    ·rw [List.mem_singleton.mp z];exact he1) (by simp;omega)
   refine ⟨es',pl',y5,r1,by simp at r2 ⊢;omega,?_⟩
   rw [← r3,List.map_cons]
   have eE:encL (es ++ [e])=encL es ++ [encE e]:=by simp [encL]
   rw [eE]
   refine zbb (hok _) (ρ0:=[some D,some (.lst (L.map A.int)),en,some (.cel Ω.length),some (.int pl),some (.int c)]) (Ω0:=Ω ++ [.lst (encL es)]) (by simp) ?_
   generalize hNL:L.map A.int=NL at he2 hlen ⊢
   have h':pl + 1 + a ≤ (NL.length:Int):=by omega
   unfold zbR
   rw [zak (ρ1:=[some D,some (.lst NL),en,some (.cel Ω.length),some (.int (pl + 1 + a)),some (.int c)]) (Ω':=Ω ++ [.lst (encL es)]) (by simp [d9,s4,qa])]
   simp [h',zaz,d36,he2,hI,hcl,hz]
  ·obtain ⟨es',pl',y5,r1,r2,r3⟩:=zf1 L hL ok hok D en Ω cs es (pl + 1 + a) (some (.int c)) (fun q hq=>hc q (List.mem_cons_of_mem _ hq)) (by omega) he (by omega)
   refine ⟨es',pl',y5,r1,by simp;omega,?_⟩
   rw [← r3,List.map_cons]
   refine zbb (hok _) (ρ0:=[some D,some (.lst (L.map A.int)),en,some (.cel Ω.length),some (.int pl),some (.int c)]) (Ω0:=Ω ++ [.lst (encL es)]) (by simp) ?_
   generalize hNL:L.map A.int=NL at hlen ⊢
   have h':¬ pl + 1 + a ≤ (NL.length:Int):=by omega
   unfold zbR
   rw [zak (ρ1:=[some D,some (.lst NL),en,some (.cel Ω.length),some (.int (pl + 1 + a)),some (.int c)]) (Ω':=Ω ++ [.lst (encL es)]) (by simp [d9,s4,qa])]
   simp [h']
theorem zql (L:List Int) (hL1:1 ≤ L.length) (hL:L.length ≤ 900) (cs:List Int) (hc:∀ c ∈ cs,0 ≤ c) (hcl:cs.length ≤ 700) (ends:Int) (he0:0 ≤ ends) (Ω:Sto) :
  ∃ es:List E,(∀ e ∈ es,zgP e)∧es.length ≤ cs.length + 2∧zc9 [.lst (cs.map A.int), .lst (L.map A.int), .int ends] Ω=some (.ok (.lst (encL es)),Ω):=by
 obtain ⟨es,pl,y5,r1,r2,r3⟩:=zf1 L hL (fun Ω'=>zaF Ω' (.lst (cs.map A.int))=some (cs.map A.int)) (fun _=>rfl) (.lst (cs.map A.int)) (some (.int ends)) Ω cs [] 0 none hc (Int.le_refl _) (fun e h=>by cases h) (by simp;omega)
 simp only [List.length_nil,Nat.zero_add] at r2
 have s1:(1:Nat) ≤ sizeLine:=by decide
 have s3:(3:Nat) ≤ sizeLine:=by decide
 have d4:CDiv ends 4:=⟨by decide,by decide⟩
 obtain ⟨v0,q0⟩ : ∃ v,atI (L.map A.int) 0=some (.int v):=⟨L[0],by have:=zbO (L.map A.int) 0;simp at this;rw [this,List.getElem?_eq_getElem (show 0 < L.length by omega)];rfl⟩
 obtain ⟨vL,qL⟩ : ∃ v,atI (L.map A.int) (-1)=some (.int v):=by
  have hne:L ≠ []:=by intro z;rw [z] at hL1;simp at hL1
  obtain ⟨zs,z,rfl⟩ : ∃ zs z,L=zs ++ [z]:=⟨L.dropLast,L.getLast hne,(List.dropLast_concat_getLast hne).symm⟩
  exact ⟨z,by rw [List.map_append];exact V2.zoN _ _⟩
 have hlen:(((L.map A.int).length:Nat):Int)=L.length:=by simp
 generalize hNL:L.map A.int=NL at r3 q0 qL hlen
 have last:∀ (fs:List E) (Ω0:Sto) (y5:Option A) (pl:Int),fs.length ≤ 800→(∀ e ∈ fs,zgP e)→∃ fs',(∀ e ∈ fs',zgP e)∧fs'.length ≤ fs.length + 1∧∃ ρ,(sSeq (sIf (zh6 (zay (vOp gGt (vOp (gMod) (vOp (gDiv) (vVar 2) (cI 4)) (cI 4)) (cI 0))) (zay (vOp (gMem true) (vTup (zad (vOp gIx (vVar 1) (vNeg (cI 1))) (zad (vCl gLen (zad (vVar 1) a0)) (zad (vCl gLen (zad (vVar 1) a0)) a0)))) (vVar 3))))
   (sExp (vBM zdS (vVar 3) (zad (vTup (zad (vOp gIx (vVar 1) (vNeg (cI 1))) (zad (vCl gLen (zad (vVar 1) a0)) (zad (vCl gLen (zad (vVar 1) a0)) a0)))) a0)))
   sNx)
  (sRet (vFrz 3))) [some (.lst (cs.map A.int)),some (.lst NL),some (.int ends),some (.cel Ω0.length),some (.int pl),y5] (Ω0 ++ [.lst (encL fs)])=some (.ret (.lst (encL fs')),ρ,Ω0 ++ [.dead]):=by
  intro fs Ω0 y5 pl hfl hfn
  have hI:isL (Ω0 ++ [.lst (encL fs)]) (.cel Ω0.length):=zjw (zbo (ds:=encL fs) (by simp))
  have hcel:zgS (Ω0 ++ [.lst (encL fs)]) (.cel Ω0.length)=some (Ω0.length,encL fs):=zeB (by simp)
  have hz:fs.length < sizeLine:=by rw [sizeLine_eq];omega
  obtain ⟨b,gm⟩:=zmY vL (NL.length:Int) (NL.length:Int) fs Ω0.length (Ω0 ++ [.lst (encL fs)]) (by simp)
  by_cases c:0 < ends / 4 % 4
  ·cases b with
   | true =>
    refine ⟨fs ++ [(vL,(NL.length:Int),(NL.length:Int))],fun e h=>?_,by simp,[some (.lst (cs.map A.int)),some (.lst NL),some (.int ends),some (.cel Ω0.length),some (.int pl),y5],?_⟩
    ·rcases List.mem_append.mp h with z | z
     ·exact hfn e z
     ·rw [List.mem_singleton.mp z];unfold zgP;simp only;omega
    ·have eE:encL (fs ++ [(vL,(NL.length:Int),(NL.length:Int))])=encL fs ++ [A.tup [.int vL, .int (NL.length:Int), .int (NL.length:Int)]]:=by simp [encL,encE]
     rw [eE]
     rw [zak (ρ1:=[some (.lst (cs.map A.int)),some (.lst NL),some (.int ends),some (.cel Ω0.length),some (.int pl),y5]) (Ω':=Ω0 ++ [.lst (encL fs ++ [A.tup [.int vL, .int (NL.length:Int), .int (NL.length:Int)]])]) (by simp [d4,c,qL,s3,gm,hI,hcel,hz])]
     simp [zaH]
   | false =>
    refine ⟨fs,hfn,by simp,[some (.lst (cs.map A.int)),some (.lst NL),some (.int ends),some (.cel Ω0.length),some (.int pl),y5],?_⟩
    rw [zak (ρ1:=[some (.lst (cs.map A.int)),some (.lst NL),some (.int ends),some (.cel Ω0.length),some (.int pl),y5]) (Ω':=Ω0 ++ [.lst (encL fs)]) (by simp [d4,c,qL,s3,gm])]
    simp [zaH]
  ·refine ⟨fs,hfn,by simp,[some (.lst (cs.map A.int)),some (.lst NL),some (.int ends),some (.cel Ω0.length),some (.int pl),y5],?_⟩
   rw [zak (ρ1:=[some (.lst (cs.map A.int)),some (.lst NL),some (.int ends),some (.cel Ω0.length),some (.int pl),y5]) (Ω':=Ω0 ++ [.lst (encL fs)]) (by simp [d4,c])]
   simp [zaH]
 have fin:∀ r,(∃ ρ Δ,zdg [some (.lst (cs.map A.int)),some (.lst NL),some (.int ends),none,none,none] Ω=some (.ret (.lst (encL r)),ρ,Ω ++ Δ))→zc9 [.lst (cs.map A.int), .lst NL, .int ends] Ω=some (.ok (.lst (encL r)),Ω):=by
  rintro r ⟨ρ,Δ,h⟩
  show trim Ω (outR (zdg [some (.lst (cs.map A.int)),some (.lst NL),some (.int ends),none,none,none] Ω))=_
  rw [h]
  simp only [outR]
  exact zeg (by
   simp only [Cl]
   exact zhw fun a h=>by
    obtain ⟨y,_,rfl⟩:=List.mem_map.mp h
    simp [encE,Cl,ClL])
 have gE:gEq (.cel Ω.length) (.lst []) (Ω ++ [.lst (encL es)])=some (.ok (.bl es.isEmpty),Ω ++ [.lst (encL es)]):=by
  have p1:pur 8 (.lst (encL es))=true:=by
   simp only [pur,List.all_eq_true]
   intro a ha
   obtain ⟨e,_,rfl⟩:=List.mem_map.mp ha
   simp [encE,pur]
  have h2:pur 8 (.lst [])=true:=rfl
  have rr:res (Ω ++ [.lst (encL es)]) 6 (.cel Ω.length)=some (.lst (encL es)):=by rw [zi2 (ds:=encL es) (by simp),zg7 _ (zi8 7 es)];rfl
  simp [gEq,gEqB,rr,zb6 h2,p1,h2,zm9]
 have cu:cutA (encL es) (some 1) none=encL (es.drop 1):=by
  cases es with
  | nil=>simp [cutA,encL]
  | cons e r=>exact znH (e :: r) 1 (by simp)
 have lt:zaH (Ω ++ [.lst (encL es)]) (.cel Ω.length)=some (encL es):=zbo (by simp)
 have pre:∀ f:MS,sSeq (sAsg (vLst true a0) (gN 3)) (sSeq (sAsg (cI 0) (gN 4)) (sSeq (sFor (vSeq (vVar 0)) (gN 5) zbR) f)) [some (.lst (cs.map A.int)),some (.lst NL),some (.int ends),none,none,none] Ω=f [some (.lst (cs.map A.int)),some (.lst NL),some (.int ends),some (.cel Ω.length),some (.int pl),y5] (Ω ++ [.lst (encL es)]):=by
  intro f
  rw [zak (ρ1:=[some (.lst (cs.map A.int)),some (.lst NL),some (.int ends),some (.cel Ω.length),none,none]) (Ω':=Ω ++ [.lst []]) (by simp)]
  rw [zak (ρ1:=[some (.lst (cs.map A.int)),some (.lst NL),some (.int ends),some (.cel Ω.length),some (.int 0),none]) (Ω':=Ω ++ [.lst []]) (by simp)]
  rw [zak (ρ1:=[some (.lst (cs.map A.int)),some (.lst NL),some (.int ends),some (.cel Ω.length),some (.int pl),y5]) (Ω':=Ω ++ [.lst (encL es)]) (by
   rw [forO (S:=srcOf (.lst (cs.map A.int)) (cs.map A.int)) (Ω':=Ω ++ [.lst []]) (by simp)]
   exact r3)]
 by_cases cA:es.isEmpty=true∨0 < ends % 4
 ·obtain ⟨fs',f1,f2,ρ,f3⟩:=last ((v0,1,1) :: es.drop 1) (Ω ++ [.lst (encL es)]) y5 pl (by simp;omega) (fun e h=>by
   rcases List.mem_cons.mp h with z | z
   ·rw [z];unfold zgP;simp only;omega
   ·exact r1 e (List.mem_of_mem_drop z))
  refine ⟨fs',f1,by simp at f2;omega,fin fs' ⟨ρ,[.lst (encL es), .dead],?_⟩⟩
  unfold zdg
  rw [pre]
  have eL:(Ω ++ [.lst (encL es)] : Sto).length=Ω.length + 1:=by simp
  have eE:encL ((v0,1,1) :: es.drop 1)=[A.tup [.int v0, .int 1, .int 1]] ++ encL (es.drop 1):=by simp [encL,encE]
  have z2:¬ sizeLine < 1 + (encL (es.drop 1)).length:=by rw [sizeLine_eq];simp [encL];omega
  rw [zak (ρ1:=[some (.lst (cs.map A.int)),some (.lst NL),some (.int ends),some (.cel (Ω ++ [.lst (encL es)] : Sto).length),some (.int pl),y5]) (Ω':=Ω ++ [.lst (encL es)] ++ [.lst (encL ((v0,1,1) :: es.drop 1))]) (by
   rw [eE]
   generalize encL (es.drop 1)=u at cu z2
   by_cases c1:es.isEmpty=true
   ·simp [gE,c1,q0,s1,s3,lt,cu,z2]
   ·have c1:es.isEmpty=false:=by simpa using c1
    have c2:0 < ends % 4:=cA.resolve_left (by simp [c1])
    simp [gE,c1,c2,q0,s1,s3,lt,cu,z2])]
  rw [f3]
  simp
 ·obtain ⟨fs',f1,f2,ρ,f3⟩:=last es Ω y5 pl (by omega) r1
  refine ⟨fs',f1,by omega,fin fs' ⟨ρ,[.dead],?_⟩⟩
  unfold zdg
  rw [pre]
  have c1:es.isEmpty=false:=by
   cases h:es.isEmpty with
   | false=>rfl
   | true=>exact absurd (.inl h) cA
  have c2:¬ 0 < ends % 4:=fun z=>cA (.inr z)
  rw [zak (ρ1:=[some (.lst (cs.map A.int)),some (.lst NL),some (.int ends),some (.cel Ω.length),some (.int pl),y5]) (Ω':=Ω ++ [.lst (encL es)]) (by simp [gE,c1,c2])]
  exact f3
end M
namespace M
open PySem L2 V2
theorem zlD (ns:List Int) (k:Nat) (h:k < ns.length):atI (ns.map A.int) (k:Int)=some (.int ns[k]):=by rw [zbO];simp [h]
theorem zpD {n k:Nat} (h:k < n):ixN n (k:Int)=some k:=by
 unfold ixN
 simp [h]
theorem zt0 {c:Ev→Mo Bool} {f g:MS} {ρ:Ev} {Ω Ω':Sto} (h:c ρ Ω=some (.ok true,Ω')):sIf c f g ρ Ω=f ρ Ω':=by
 unfold sIf
 rw [zmD h]
 simp
theorem st_a (Ω:Sto) (a b:Cell):(Ω ++ [a,b])[Ω.length]? = some a:=by simp
theorem st_b (Ω:Sto) (a b:Cell):(Ω ++ [a,b])[Ω.length + 1]? = some b:=by
 rw [List.getElem?_append_right (by omega)];simp
theorem zt5 (Ω:Sto) (a b c:Cell):(Ω ++ [a,b]).set Ω.length c=Ω ++ [c,b]:=by simp
theorem zqI (Ω:Sto) (a b c:Cell):(Ω ++ [a,b]).set (Ω.length + 1) c=Ω ++ [a,c]:=by
 rw [List.set_append_right _ _ (by omega)];simp
theorem ztw (f:Ev→Mo A) (ρ:Ev) (Ω:Sto) (n:Int) (h:f ρ Ω=some (.ok (.int n),Ω)) (cm:CMul n n):(vOp (gAdd false) (vOp (gMod) (vOp (gMul) f f) (cI 1009)) (cI 3)) ρ Ω=some (.ok (.int (n * n % 1009 + 3)),Ω):=by
 have h2:vOp gMul f f ρ Ω=some (.ok (.int (n * n)),Ω):=by
  simp only [vOp]
  rw [zke h,zke h]
  simp only [gMul,gI]
  rw [zmP _ cm]
  rfl
 generalize n * n=m at h2
 generalize vOp gMul f f=g at h2
 simp [h2]
end M
namespace M
open PySem L2 V2
end M
namespace M
open PySem L2 V2
end M
namespace M
open PySem L2 V2
theorem ztu (g:Ev→Mo A) (x0 x1 x2 x3:Option A) (NL:List A) (sk c d k2:Int) (a k b:Nat) (Ω:Sto) (fs:List A) (h:g [x0,x1,x2,x3,some (.lst NL),some (.cel b),some (.int k),some (.int a)] Ω=some (.ok (.int k2),Ω)) (aS:atI NL (a:Int)=some (.int sk))
  (m1:zbA [.int (sk % 2147483647), .int ((k:Int) + 7)] Ω=some (.ok (.int c),Ω)) (m2:zbA [.int c, .int k2] Ω=some (.ok (.int d),Ω)) (i:isL Ω (.cel b)) (cl:zgS Ω (.cel b)=some (b,fs)) (hz:fs.length < sizeLine) :
  sExp (vBM zdS (vVar 5) (zad (vCl (zaz 2 zbA) (zad (vCl (zaz 2 zbA) (zad (vOp (gMod) (vOp gIx (vVar 4) (vVar 7)) (cI 2147483647)) (zad (vOp (gAdd false) (vVar 6) (cI 7)) a0))) (zad g a0))) a0)) [x0,x1,x2,x3,some (.lst NL),some (.cel b),some (.int k),some (.int a)] Ω=some (.nx,[x0,x1,x2,x3,some (.lst NL),some (.cel b),some (.int k),some (.int a)],Ω.set b (.lst (fs ++ [.int d]))):=by
 simp [h,zaz,aS,m1,m2,i,cl,hz]
theorem zkq (ns rest seeds ds:List Int) (mx:Bool) (many:Int) (k:Nat) (hk:k ≤ 400) (L:Nat) (hL:L ≤ 63) (hL1:1 ≤ L) (hr:rest.length=L) (hs:seeds.length=L) (hd:ds.length ≤ 500) (x7:Option A) (Ω:Sto) :
  ∃ (rest':List Int) (d:Int) (y7:Option A),rest'.length=L∧0 ≤ d∧d < 2147483587 ∧
   zaS [some (.scr ns),some (.int many),some (.cel Ω.length),some (.bl mx),some (.lst (seeds.map A.int)),some (.cel (Ω.length + 1)),some (.int k),x7] (Ω ++ [.lst (rest.map A.int), .lst (ds.map A.int)])
    = some (.nx,[some (.scr ns),some (.int many),some (.cel Ω.length),some (.bl mx),some (.lst (seeds.map A.int)),some (.cel (Ω.length + 1)),some (.int k),y7],Ω ++ [.lst (rest'.map A.int), .lst ((ds ++ [d]).map A.int)]):=by
 have gR:=st_a Ω (.lst (rest.map A.int)) (.lst (ds.map A.int))
 have lR:zaH (Ω ++ [.lst (rest.map A.int), .lst (ds.map A.int)]) (.cel Ω.length)=some (rest.map A.int):=zbo gR
 have sR:zaF (Ω ++ [.lst (rest.map A.int), .lst (ds.map A.int)]) (.cel Ω.length)=some (rest.map A.int):=by simpa using lR
 have iF:isL (Ω ++ [.lst (rest.map A.int), .lst (ds.map A.int)]) (.cel (Ω.length + 1)):=zjw (zbo (st_b ..))
 have cF:zgS (Ω ++ [.lst (rest.map A.int), .lst (ds.map A.int)]) (.cel (Ω.length + 1))=some (Ω.length + 1,ds.map A.int):=zeB (st_b ..)
 have hz:ds.length < sizeLine:=by rw [sizeLine_eq];omega
 obtain ⟨a,ha⟩:=Int.eq_ofNat_of_zero_le (Int.emod_nonneg (k:Int) (show (L:Int) ≠ 0 by omega))
 have ha2:a < L:=by
  have:=Int.emod_lt_of_pos (k:Int) (show (0:Int) < (L:Int) by omega)
  rw [ha] at this;omega
 have hLp:(0:Int) < (L:Int):=by omega
 have hLn:0 < L:=by omega
 have aR:atI (rest.map A.int) (a:Int)=some (.int (rest[a]'(by omega))):=by rw [zbO];simp [hr,ha2]
 have aS:atI (seeds.map A.int) (a:Int)=some (.int (seeds[a]'(by omega))):=by rw [zbO];simp [hs,ha2]
 have f0:=Int.emod_nonneg (seeds[a]'(by omega)) (show (2147483647:Int) ≠ 0 by decide)
 have f1:=Int.emod_lt_of_pos (seeds[a]'(by omega)) (show (0:Int) < 2147483647 by decide)
 have m1:=fun Ω=>zr7 (seeds[a]'(by omega) % 2147483647) ((k:Int) + 7) Ω f0 (by omega) (by omega) (by omega)
 have b0:=mix0 (seeds[a]'(by omega) % 2147483647) ((k:Int) + 7)
 have b1:=mix1 (seeds[a]'(by omega) % 2147483647) ((k:Int) + 7)
 have cm:CMul (k:Int) (k:Int):=zkr (by omega) (by omega)
 have e0:=Int.emod_nonneg ((k:Int) * k) (show (1009:Int) ≠ 0 by decide)
 have e1:=Int.emod_lt_of_pos ((k:Int) * k) (show (0:Int) < 1009 by decide)
 generalize mixI (seeds[a]'(by omega) % 2147483647) ((k:Int) + 7)=c at m1 b0 b1
 have m2:=fun Ω=>zr7 c ((k:Int) * k % 1009 + 3) Ω b0 (by omega) (by omega) (by omega)
 have c0:=mix0 c ((k:Int) * k % 1009 + 3)
 have c1:=mix1 c ((k:Int) * k % 1009 + 3)
 generalize mixI c ((k:Int) * k % 1009 + 3)=d at m2 c0 c1
 have start:∀ f:MS,sSeq (sAsg (vOp (gMod) (vVar 6) (vCl gLen (zad (vVar 2) a0))) (gN 7)) f [some (.scr ns),some (.int many),some (.cel Ω.length),some (.bl mx),some (.lst (seeds.map A.int)),some (.cel (Ω.length + 1)),some (.int k),x7] (Ω ++ [.lst (rest.map A.int), .lst (ds.map A.int)])
   = f [some (.scr ns),some (.int many),some (.cel Ω.length),some (.bl mx),some (.lst (seeds.map A.int)),some (.cel (Ω.length + 1)),some (.int k),some (.int a)] (Ω ++ [.lst (rest.map A.int), .lst (ds.map A.int)]):=by
  intro f
  rw [zak (ρ1:=[some (.scr ns),some (.int many),some (.cel Ω.length),some (.bl mx),some (.lst (seeds.map A.int)),some (.cel (Ω.length + 1)),some (.int k),some (.int a)]) (Ω':=Ω ++ [.lst (rest.map A.int), .lst (ds.map A.int)]) (by simp [lR,sR,hr,hLp,hLn,ha])]
 have eF:∀ v:Int,(ds ++ [v]).map A.int=ds.map A.int ++ [A.int v]:=fun v=>by simp
 generalize hsk:seeds[a]'(by omega)=sk at aS m1
 by_cases hq:mx=true∨rest[a]'(by omega)=0
 ·refine ⟨rest,d,some (.int a),hr,c0,c1,?_⟩
  rw [eF]
  unfold zaS
  rw [start]
  generalize hrk:rest[a]'(by omega)=rk at aR hq
  have hG:=ztw (vVar 6) [some (.scr ns),some (.int many),some (.cel Ω.length),some (.bl mx),some (.lst (seeds.map A.int)),some (.cel (Ω.length + 1)),some (.int k),some (.int a)] (Ω ++ [.lst (rest.map A.int), .lst (ds.map A.int)]) (k:Int) (by simp) cm
  generalize hk2:(k:Int) * (k:Int) % 1009 + 3=k2 at hG m2
  generalize hgg:vOp (gAdd false) (vOp (gMod) (vOp (gMul) (vVar 6) (vVar 6)) (cI 1009)) (cI 3)=gg at hG ⊢
  have hz2:(ds.map A.int).length < sizeLine:=by simpa using hz
  have m1':=m1 (Ω ++ [.lst (rest.map A.int), .lst (ds.map A.int)])
  have m2':=m2 (Ω ++ [.lst (rest.map A.int), .lst (ds.map A.int)])
  have hA:=ztu gg (some (.scr ns)) (some (.int many)) (some (.cel Ω.length)) (some (.bl mx)) (seeds.map A.int) sk c d k2 a k (Ω.length + 1) (Ω ++ [.lst (rest.map A.int), .lst (ds.map A.int)]) (ds.map A.int) hG aS m1' m2' iF cF hz2
  rw [zqI] at hA
  have hcond:(vOrT (zay (vVar 3)) (zay (vOp gEq (vOp gIx (vVar 2) (vVar 7)) (cI 0)))) [some (.scr ns),some (.int many),some (.cel Ω.length),some (.bl mx),some (.lst (seeds.map A.int)),some (.cel (Ω.length + 1)),some (.int k),some (.int a)] (Ω ++ [.lst (rest.map A.int), .lst (ds.map A.int)])=some (.ok true,Ω ++ [.lst (rest.map A.int), .lst (ds.map A.int)]):=by
   by_cases hm:mx=true
   ·simp [hm]
   ·have hm':mx=false:=by simpa using hm
    have hr0:rk=0:=hq.resolve_left hm
    subst hr0
    simp [hm',sR,aR]
  rw [zt0 hcond]
  exact hA
 ·have hm':mx=false:=by
   cases mx with
   | false=>rfl
   | true=>exact absurd (.inl rfl) hq
  have hr0:¬ rest[a]'(by omega)=0:=fun z=>hq (.inr z)
  have dv:zn7 (rest[a]'(by omega)) 2147483587:=⟨by decide,by decide⟩
  have ix:ixN L (a:Int)=some a:=zpD ha2
  refine ⟨rest.set a (rest[a]'(by omega) / 2147483587),rest[a]'(by omega) % 2147483587,some (.int a),by simp [hr],by omega,by omega,?_⟩
  rw [eF,List.map_set]
  unfold zaS
  rw [start]
  have lR2:zaH (Ω ++ [.lst (rest.map A.int), .lst (ds.map A.int ++ [A.int (rest[a]'(by omega) % 2147483587)])]) (.cel Ω.length)=some (rest.map A.int):=zbo (st_a ..)
  have sR2:zaF (Ω ++ [.lst (rest.map A.int), .lst (ds.map A.int ++ [A.int (rest[a]'(by omega) % 2147483587)])]) (.cel Ω.length)=some (rest.map A.int):=by simpa using lR2
  have gR2:=st_a Ω (.lst (rest.map A.int)) (.lst (ds.map A.int ++ [A.int (rest[a]'(by omega) % 2147483587)]))
  generalize hrk:rest[a]'(by omega)=rk at aR hr0 dv lR2 sR2 gR2 ⊢
  simp [hm',sR,aR,hr0,iF,cF,hz,zqI,sR2,dv,gR2,hr,ix,zt5]
end M
namespace M
open PySem L2 V2
theorem zk9 (ns seeds:List Int) (mx:Bool) (many:Nat) (hm:many ≤ 400) (L:Nat) (hL:L ≤ 63) (hL1:1 ≤ L) (Ω:Sto) (rest:List Int) (hr:rest.length=L) (hs:seeds.length=L) :
  ∃ (rest' ds':List Int) (x6' x7':Option A),ds'.length=many∧(∀ d ∈ ds',0 ≤ d∧d < 2147483587) ∧
   fFor (fun _=>True) (gN 6) zaS ((List.range many).map fun (i:Nat)=>A.int (0 + (i:Int))) [some (.scr ns),some (.int many),some (.cel Ω.length),some (.bl mx),some (.lst (seeds.map A.int)),some (.cel (Ω.length + 1)),none,none] (Ω ++ [.lst (rest.map A.int), .lst []])
    = some (.nx,[some (.scr ns),some (.int many),some (.cel Ω.length),some (.bl mx),some (.lst (seeds.map A.int)),some (.cel (Ω.length + 1)),x6',x7'],Ω ++ [.lst (rest'.map A.int), .lst (ds'.map A.int)]):=by
 obtain ⟨ρ1,Ω1,e1,rest',ds',y6,y7,rfl,rfl,a1,a3,a4⟩:=zg3 (ok:=fun _=>True) (g:=gN 6) (b:=zaS)
  (fun i ρ Ω'=>∃ (rest' ds':List Int) (y6 y7:Option A),ρ=[some (.scr ns),some (.int many),some (.cel Ω.length),some (.bl mx),some (.lst (seeds.map A.int)),some (.cel (Ω.length + 1)),y6,y7]∧Ω'=Ω ++ [.lst (rest'.map A.int), .lst (ds'.map A.int)]∧rest'.length=L∧ds'.length=i∧(∀ d ∈ ds',0 ≤ d∧d < 2147483587)) (fun _ _ _ _=>trivial)
  ((List.range many).map fun (i:Nat)=>A.int (0 + (i:Int))) 0 [some (.scr ns),some (.int many),some (.cel Ω.length),some (.bl mx),some (.lst (seeds.map A.int)),some (.cel (Ω.length + 1)),none,none] (Ω ++ [.lst (rest.map A.int), .lst []]) ⟨rest,[],none,none,rfl,rfl,hr,rfl,by simp⟩
  (by
   rintro i x ρ Ω' hx ⟨rest1,ds1,y6,y7,rfl,rfl,b1,b3,b4⟩
   have hi:i < many:=by simpa using (List.getElem?_eq_some_iff.mp hx).1
   obtain rfl:A.int (0 + (i:Int))=x:=by
    have:=(List.getElem?_eq_some_iff.mp hx).2
    simpa using this
   rw [Nat.zero_add] at b3 ⊢
   obtain ⟨rest2,d,y7',c1,c3,c4,q⟩:=zkq ns rest1 seeds ds1 mx many i (by omega) L hL hL1 b1 hs (by omega) y7 Ω
   rw [Int.zero_add]
   refine ⟨_,_,_,_,rfl, .inl q,rest2,ds1 ++ [d],_,_,rfl,rfl,c1,by simp;omega,fun v hv=>?_⟩
   rcases List.mem_append.mp hv with h | h
   ·exact b4 v h
   ·simp at h;rw [h];exact ⟨c3,c4⟩)
 simp only [Nat.zero_add,List.length_map,List.length_range] at a3
 exact ⟨rest',ds',y6,y7,a3,a4,e1⟩
end M
namespace M
open PySem L2 V2
theorem rngN {f:Ev→Mo (List A)} {ρ:Ev} {Ω Ω':Sto} {n:Nat} (h:f ρ Ω=some (.ok [.int (n:Int)],Ω')) (hs:n ≤ 100000):zhg f ρ Ω=some (.ok (zej 0 n),Ω'):=by
 have:=rngO h (by unfold za6;omega)
 rwa [Int.toNat_natCast] at this
theorem zgC (ns:List Int) (many:Nat) (hm:many ≤ 400) (x:Int) (r:List Int) (hr:r.length ≤ 62) (Ω:Sto) :
  ∃ ds:List Int,ds.length=many∧(∀ d ∈ ds,0 ≤ d∧d < 2147483587)∧∃ ρ Δ,(sSeq (sAsg (vOp gEq (vOp (gMod) (vOp gIx (vVar 2) (cI 0)) (cI 2)) (cI 1)) (gN 3))
  (sSeq (sAsg (vOp (gDiv) (vOp gIx (vVar 2) (cI 0)) (cI 2)) (zof (vVar 2) (cI 0)))
  (sSeq (sAsg (vCl (zgQ false) (zad (vVar 2) a0)) (gN 4))
  (sSeq (sAsg (vLst true a0) (gN 5))
  (sSeq (sFor (zhg (zad (vVar 1) a0)) (gN 6) zaS)
  (sRet (vFrz 5))))))) [some (.scr ns),some (.int many),some (.cel Ω.length),none,none,none,none,none] (Ω ++ [.lst ((x :: r).map A.int)])=some (.ret (.lst (ds.map A.int)),ρ,Ω ++ Δ):=by
 have d2:CDiv x 2:=⟨by decide,by decide⟩
 obtain ⟨rest',ds,x6,x7,b1,b2,q⟩:=zk9 ns (x / 2 :: r) (x % 2 == 1) many hm (r.length + 1) (by omega) (by omega) Ω (x / 2 :: r) (by simp) (by simp)
 refine ⟨ds,b1,b2,[some (.scr ns),some (.int many),some (.cel Ω.length),some (.bl (x % 2 == 1)),some (.lst ((x / 2 :: r).map A.int)),some (.cel (Ω.length + 1)),x6,x7],[.lst (rest'.map A.int), .dead],?_⟩
 have lR:zaH (Ω ++ [.lst ((x :: r).map A.int)]) (.cel Ω.length)=some ((x :: r).map A.int):=zbo (by simp)
 have sR:zaF (Ω ++ [.lst ((x :: r).map A.int)]) (.cel Ω.length)=some ((x :: r).map A.int):=by simpa using lR
 have gR:(Ω ++ [Cell.lst ((x :: r).map A.int)])[Ω.length]? = some (.lst ((x :: r).map A.int)):=by simp
 have ix:ixN (r.length + 1) 0=some 0:=by have h:=zpD (n:=r.length + 1) (k:=0) (by omega);simpa using h
 have lR2:zaH (Ω ++ [.lst ((x / 2 :: r).map A.int)]) (.cel Ω.length)=some ((x / 2 :: r).map A.int):=zbo (by simp)
 have sR2:zaF (Ω ++ [.lst ((x / 2 :: r).map A.int)]) (.cel Ω.length)=some ((x / 2 :: r).map A.int):=by simpa using lR2
 have hz:((x / 2 :: r).map A.int).length ≤ sizeLine:=by rw [sizeLine_eq];simp;omega
 rw [zak (ρ1:=[some (.scr ns),some (.int many),some (.cel Ω.length),some (.bl (x % 2 == 1)),none,none,none,none]) (Ω':=Ω ++ [.lst ((x :: r).map A.int)]) (by
  simp only [List.map_cons] at sR
  simp [sR])]
 rw [zak (ρ1:=[some (.scr ns),some (.int many),some (.cel Ω.length),some (.bl (x % 2 == 1)),none,none,none,none]) (Ω':=Ω ++ [.lst ((x / 2 :: r).map A.int)]) (by
  simp only [List.map_cons] at sR gR
  simp [sR,d2,gR,ix])]
 rw [zak (ρ1:=[some (.scr ns),some (.int many),some (.cel Ω.length),some (.bl (x % 2 == 1)),some (.lst ((x / 2 :: r).map A.int)),none,none,none]) (Ω':=Ω ++ [.lst ((x / 2 :: r).map A.int)]) (by
  generalize (x / 2 :: r).map A.int=u at lR2 sR2 hz
  simp [lR2,sR2])]
 rw [zak (ρ1:=[some (.scr ns),some (.int many),some (.cel Ω.length),some (.bl (x % 2 == 1)),some (.lst ((x / 2 :: r).map A.int)),some (.cel (Ω.length + 1)),none,none]) (Ω':=Ω ++ [.lst ((x / 2 :: r).map A.int), .lst []]) (by simp [mkL])]
 rw [zak (ρ1:=[some (.scr ns),some (.int many),some (.cel Ω.length),some (.bl (x % 2 == 1)),some (.lst ((x / 2 :: r).map A.int)),some (.cel (Ω.length + 1)),x6,x7]) (Ω':=Ω ++ [.lst (rest'.map A.int), .lst (ds.map A.int)]) (by
  rw [forO (S:=zej 0 many) (Ω':=Ω ++ [.lst ((x / 2 :: r).map A.int), .lst []]) (rngN (n:=many) (by simp) (by omega))]
  exact q)]
 have g:=st_b Ω (.lst (rest'.map A.int)) (.lst (ds.map A.int))
 simp [g,zqI]
end M
namespace M
open PySem L2 V2
theorem znT (ns:List Int) (hns:ns.length ≤ 63) (many:Nat) (hm:many ≤ 400) (Ω:Sto):∃ ds:List Int,ds.length=many∧(∀ d ∈ ds,0 ≤ d∧d < 2147483587)∧zbr [.scr ns, .int many] Ω=some (.ok (.lst (ds.map A.int)),Ω):=by
 have hlc:∀ Ω,zaH Ω (.scr ns)=some (ns.map A.int):=fun _=>rfl
 have hsc:∀ Ω,zaF Ω (.scr ns)=some (ns.map A.int):=fun _=>rfl
 have h1:(1:Nat) ≤ sizeLine:=by decide
 have hcl:∀ (n:Nat) (ds:List Int),Cl n (.lst (ds.map A.int)):=fun n ds=>by
  simp only [Cl];exact zhw fun a ha=>by obtain ⟨i,_,rfl⟩:=List.mem_map.mp ha;simp only [Cl]
 have fin:∀ ds:List Int,(∃ ρ Δ,zbI [some (.scr ns),some (.int many),none,none,none,none,none,none] Ω=some (.ret (.lst (ds.map A.int)),ρ,Ω ++ Δ))→zbr [.scr ns, .int many] Ω=some (.ok (.lst (ds.map A.int)),Ω):=by
  rintro ds ⟨ρ,Δ,h⟩
  show trim Ω (outR (zbI [some (.scr ns),some (.int many),none,none,none,none,none,none] Ω))=_
  rw [h]
  simp only [outR]
  exact zeg (hcl _ _)
 have hz:(ns.map A.int).length ≤ sizeLine:=by rw [sizeLine_eq];simp;omega
 have r1:sAsg (vCl (zgQ true) (zad (vVar 0) a0)) (gN 2) [some (.scr ns),some (.int many),none,none,none,none,none,none] Ω=some (.nx,[some (.scr ns),some (.int many),some (.cel Ω.length),none,none,none,none,none],Ω ++ [.lst (ns.map A.int)]):=by
  have hl:=hlc Ω
  have hs:=hsc Ω
  generalize ns.map A.int=u at hl hs hz
  simp [hl,hs,hz,mkL]
 have gE:=zh8 ns Ω.length (Ω ++ [.lst (ns.map A.int)]) (by simp)
 cases ns with
 | nil =>
  obtain ⟨ds,b1,b2,ρ,Δ,q⟩:=zgC [] many hm 0 [] (by simp) (Ω ++ [.lst []])
  refine ⟨ds,b1,b2,fin ds ⟨ρ, .lst [] :: Δ,?_⟩⟩
  unfold zbI
  rw [zak r1]
  rw [zak (ρ1:=[some (.scr []),some (.int many),some (.cel (Ω ++ [.lst []] : Sto).length),none,none,none,none,none]) (Ω':=Ω ++ [.lst []] ++ [.lst ([0].map A.int)]) (by
   simp only [List.map_nil] at gE ⊢
   simp [gE,mkL,h1])]
  rw [q]
  simp
 | cons n r =>
  obtain ⟨ds,b1,b2,ρ,Δ,q⟩:=zgC (n :: r) many hm n r (by simpa using hns) Ω
  refine ⟨ds,b1,b2,fin ds ⟨ρ,Δ,?_⟩⟩
  unfold zbI
  rw [zak r1]
  rw [zak (ρ1:=[some (.scr (n :: r)),some (.int many),some (.cel Ω.length),none,none,none,none,none]) (Ω':=Ω ++ [.lst ((n :: r).map A.int)]) (by
   generalize (n :: r).map A.int=u at gE
   simp [gE])]
  exact q
def rn85 (x:Int):Rn:=(x % 6,1 + x / 6 % 6)
theorem zif (ok:Sto→Prop) (hok:∀ Ω,ok Ω) (x0 x1:Option A) (Ω:Sto):∀ (cs:List Int) (acc:List Rn) (x3:Option A),cs.length + acc.length ≤ 1000→∃ y3,
  fFor ok (gN 3) zeL (cs.map A.int) [x0,x1,some (.cel Ω.length),x3,none,none,none,none,none] (Ω ++ [.lst (zaf acc)])=some (.nx,[x0,x1,some (.cel Ω.length),y3,none,none,none,none,none],Ω ++ [.lst (zaf (acc ++ cs.map rn85))])
 | [],acc,x3,_=>⟨x3,by simp [fFor,hok]⟩
 | c :: cs,acc,x3,h=>by
  simp only [List.length_cons] at h
  obtain ⟨y3,q⟩:=zif ok hok x0 x1 Ω cs (acc ++ [rn85 c]) (some (.int c)) (by simp;omega)
  refine ⟨y3,?_⟩
  have e:acc ++ (c :: cs).map rn85=acc ++ [rn85 c] ++ cs.map rn85:=by simp
  rw [e,← q,List.map_cons]
  have d6:CDiv c 6:=⟨by decide,by decide⟩
  have s2:(2:Nat) ≤ sizeLine:=by decide
  have hI:isL (Ω ++ [.lst (zaf acc)]) (.cel Ω.length):=zjw (zbo (ds:=zaf acc) (by simp))
  have hcel:zgS (Ω ++ [.lst (zaf acc)]) (.cel Ω.length)=some (Ω.length,zaf acc):=zeB (by simp)
  have hz:(zaf acc).length < sizeLine:=by rw [sizeLine_eq];simp [zaf];omega
  have eE:zaf (acc ++ [rn85 c])=zaf acc ++ [A.tup [.int (c % 6), .int (1 + c / 6 % 6)]]:=by simp [zaf,encT,rn85]
  rw [eE]
  refine zbb (hok _) (ρ0:=[x0,x1,some (.cel Ω.length),some (.int c),none,none,none,none,none]) (Ω0:=Ω ++ [.lst (zaf acc)]) (by simp) ?_
  generalize zaf acc=u at hI hcel hz
  simp [zeL,d6,s2,hI,hcel,hz]
theorem zpd (cs:List Int):∀ r ∈ cs.map rn85,1 ≤ r.2∧r.2 ≤ 6:=by
 intro r hr
 obtain ⟨x,_,rfl⟩:=List.mem_map.mp hr
 unfold rn85
 simp only
 omega
theorem zkK:∀ (R:List Rn),(∀ r ∈ R,1 ≤ r.2∧r.2 ≤ 6)→whole R ≤ 6 * (R.length:Int)∧(R.length:Int) ≤ whole R
 | [],_=>by simp [whole]
 | r :: R,h=>by
  have a:=h r (List.mem_cons_self ..)
  have b:=zkK R fun q hq=>h q (List.mem_cons_of_mem _ hq)
  have e:whole (r :: R)=r.2 + whole R:=by simp [whole]
  rw [e];simp only [List.length_cons];omega
theorem zsZ:∀ (R:List Rn) (acc:Int) (k:Nat),(∀ r ∈ R,1 ≤ r.2∧r.2 ≤ 6)→acc + whole R ≤ 1000000000→bad R acc k=none
 | [],_,_,_,_=>rfl
 | r :: R,acc,k,h,hw=>by
  have e:whole (r :: R)=r.2 + whole R:=by simp [whole]
  have a:=h r (List.mem_cons_self ..)
  have hn:=zkK R fun q hq=>h q (List.mem_cons_of_mem _ hq)
  have c:¬ (r.2 < 1∨1000000000 < acc + r.2):=by omega
  simp only [bad,if_neg c]
  exact zsZ R _ _ (fun q hq=>h q (List.mem_cons_of_mem _ hq)) (by omega)
theorem zsM (R:List Rn) (p:Po) (hb:bad R 0 0=none) (hs:p.s=whole R):dueW R p=match fbP p.s p.l p.d p.es with
  | some j => .pouch j
  | none=>match wrF R 0 0 p.es with
   | some j => .wrong j
   | none => .good:=by
 unfold dueW
 rw [hb]
 simp only [if_pos hs]
 all_goals cases fbP p.s p.l p.d p.es <;> first | rfl | (cases wrF R 0 0 p.es <;> rfl)
theorem znU (w:Str) (h:pur 8 (.str w)=true) (hw:(w == "good")=false) (Ω:Sto):gNe (.str w) (.str "good") Ω=some (.ok (.bl true),Ω):=by
 have h2:pur 8 (.str "good")=true:=by
  have h5:PyData.canLay0 (.str "good")=true:=by decide +kernel
  simp [pur,h5]
 simp [gNe,gEqB,zb6 h,zb6 h2,h,h2,eqA,hw]
end M
namespace M
open PySem L2 V2
end M
namespace M
open PySem L2 V2
end M
namespace M
open PySem L2 V2
end M
namespace M
open PySem L2 V2
def slkF:Int→Option E→List E→Int
 | acc,_,[]=>acc
 | acc,none,e :: es=>slkF (max acc (e.2.2 - e.2.1)) (some e) es
 | acc,some q,e :: es=>slkF (if q.1=e.1 then max acc (e.2.2 - e.2.1) else max (max acc (e.2.2 - e.2.1)) (e.2.2 - q.2.1 - 1)) (some e) es
def Up (N:Int):Int→List Int→Prop
 | z,[]=>z=N
 | z,p :: ps=>z < p∧Up N p ps
theorem Up.le {N:Int}:∀ {ps:List Int} {z:Int},Up N z ps→z ≤ N
 | [],_,h=>Int.le_of_eq h
 | _ :: _,_,h=>by have:=Up.le h.2;have:=h.1;omega
end M
namespace M
open PySem L2 V2
end M
namespace M
open PySem L2 V2
end M
namespace M
open PySem L2 V2
theorem zgd (ok:Sto→Prop) (hok:∀ Ω,ok Ω) (L:List E) (Ω:Sto):∀ (rest pre:List E) (acc:Int) (x y:Option A),L=pre ++ rest →
  ∃ x' y',fFor ok (zcR 2 (zat (gN 2) (zat (gN 3) zcU))) zbN (zaY pre.length (encL rest)) [some (.lst (encL L)),some (.int acc),x,y] Ω
   = some (.nx,[some (.lst (encL L)),some (.int (slkF acc pre.getLast? rest)),x',y'],Ω)
 | [],pre,acc,x,y,_=>⟨x,y,by cases pre.getLast? <;> simp [encL,zaY,fFor,hok,slkF]⟩
 | e :: rest,pre,acc,x,y,hL=>by
  have hL':L=(pre ++ [e]) ++ rest:=by simp [hL]
  have el:encL (e :: rest)=encE e :: encL rest:=rfl
  have glast:(pre ++ [e]).getLast? = some e:=by simp
  have glen:(pre ++ [e]).length=pre.length + 1:=by simp
  rcases List.eq_nil_or_concat pre with hp | ⟨as,q,hp⟩
  ·subst hp
   obtain ⟨x',y',r⟩:=zgd ok hok L Ω rest [e] (max acc (e.2.2 - e.2.1)) (some (.int 0)) (some (encE e)) (by simpa using hL')
   refine ⟨x',y',?_⟩
   have es:slkF acc ([] : List E).getLast? (e :: rest)=slkF (max acc (e.2.2 - e.2.1)) (some e) rest:=by simp [slkF]
   rw [es,el]
   have r':=r
   simp only [List.getLast?_singleton,List.length_cons,List.length_nil,Nat.zero_add] at r'
   rw [← r']
   simp only [zaY,List.length_nil]
   exact zbb (hok _) (ρ0:=[some (.lst (encL L)),some (.int acc),some (.int 0),some (encE e)]) (Ω0:=Ω) (by simp) (by simp [zbN,encE])
  ·have hp:pre=as ++ [q]:=by simpa using hp
   subst hp
   have hx:atI (encL L) (as.length:Int)=some (encE q):=by
    rw [zbO,hL]
    simp [encL]
   have hk:((as ++ [q]).length:Nat)=as.length + 1:=by simp
   obtain ⟨x',y',r⟩:=zgd ok hok L Ω rest ((as ++ [q]) ++ [e]) (if q.1=e.1 then max acc (e.2.2 - e.2.1) else max (max acc (e.2.2 - e.2.1)) (e.2.2 - q.2.1 - 1)) (some (.int ((as.length:Int) + 1))) (some (encE e)) hL'
   refine ⟨x',y',?_⟩
   have es:slkF acc (as ++ [q]).getLast? (e :: rest)=slkF (if q.1=e.1 then max acc (e.2.2 - e.2.1) else max (max acc (e.2.2 - e.2.1)) (e.2.2 - q.2.1 - 1)) (some e) rest:=by simp [slkF]
   rw [glast,glen] at r
   rw [es,el,← r]
   simp only [zaY]
   have h0:(0:Int) < (as.length:Int) + 1:=by omega
   refine zbb (hok _) (ρ0:=[some (.lst (encL L)),some (.int acc),some (.int ((as.length:Int) + 1)),some (encE e)]) (Ω0:=Ω) (by simp) ?_
   by_cases c:q.1=e.1
   ·simp [zbN,encE,hx,c,h0]
   ·simp [zbN,encE,hx,c,h0]
theorem zrn (es:List E) (Ω:Sto):zde [.lst (encL es)] Ω=some (.ok (.int (slkF 0 none es)),Ω):=by
 obtain ⟨x',y',q⟩:=zgd (fun Ω'=>zaH Ω' (.lst (encL es))=some (encL es)) (fun _=>rfl) es Ω es [] 0 none none rfl
 show trim Ω (outR (zdR [some (.lst (encL es)),none,none,none] Ω))=_
 have e:zdR [some (.lst (encL es)),none,none,none] Ω=some (.ret (.int (slkF 0 none es)),[some (.lst (encL es)),some (.int (slkF 0 none es)),x',y'],Ω):=by
  unfold zdR
  rw [zak (ρ1:=[some (.lst (encL es)),some (.int 0),none,none]) (Ω':=Ω) (by simp)]
  rw [zak (ρ1:=[some (.lst (encL es)),some (.int (slkF 0 none es)),x',y']) (Ω':=Ω) (by
   rw [forO (S:=enumSrc (.lst (encL es)) (encL es)) (Ω':=Ω) (by simp)];exact q)]
  simp
 rw [e]
 simp [trim,Cl]
end M
namespace M
open PySem L2 V2
end M
namespace M
open PySem L2 V2
structure PlOk (N:Int) (ks:List Int):Prop where
 nd:ks.Nodup
 rg:∀ k ∈ ks,1 ≤ k∧k ≤ N
 one:1 ∈ ks
 top:N ∈ ks
end M
namespace M
open PySem L2 V2
end M
namespace M
open PySem L2 V2
end M
namespace M
open PySem L2 V2
end M
namespace M
open PySem L2 V2
end M
namespace M
open PySem L2 V2
end M
namespace M
open PySem L2 V2
end M
namespace M
open PySem L2 V2
end M
namespace M
open PySem L2 V2
end M
namespace M
open PySem L2 V2
end M
namespace M
open PySem L2 V2
end M
namespace M
open PySem L2 V2
end M
namespace M
open PySem L2 V2
end M
namespace M
open PySem L2 V2
theorem Pl.same {R S:List Rn} (h1:∀ x,und R x=und S x) (h2:∀ x,upt R x=upt S x):∀ {es:List E} {z:Int},Pl R z es→Pl S z es
 | [],_,_=>trivial
 | e :: _,_,⟨p,a,b,c,d,f,g⟩=>⟨p,a,by rw [← h1];exact b,by rw [← h2];exact c,d,f,g.same h1 h2⟩
end M
namespace M
open PySem L2 V2
end M
namespace M
open PySem L2 V2
theorem znV (D:Due):pur 8 (zfn D)=true:=by
 have h1:PyData.canLay0 (.str "row")=true:=by decide +kernel
 have h2:PyData.canLay0 (.str "pouch")=true:=by decide +kernel
 have h3:PyData.canLay0 (.str "size")=true:=by decide +kernel
 have h4:PyData.canLay0 (.str "wrong")=true:=by decide +kernel
 have h5:PyData.canLay0 (.str "good")=true:=by decide +kernel
 cases D <;> simp [zfn,pur,h1,h2,h3,h4,h5]
end M
namespace M
open PySem L2 V2
theorem zqo (ns:List Int) (hns:ns.length ≤ 63):∃ W,zjB [.scr ns] [zbm,zbl,zbn]=some (.ok (.bl true),W):=by
 obtain ⟨ds,hl,hb,dr⟩:=znT ns hns 75 (by decide) [zbm,zbl,zbn]
 have i0:atI (ds.map A.int) 0=some (.int (ds[0]'(by omega))):=by have:=zlD ds 0 (by omega);simpa using this
 have i1:atI (ds.map A.int) 1=some (.int (ds[1]'(by omega))):=by have:=zlD ds 1 (by omega);simpa using this
 have b0:=hb (ds[0]'(by omega)) (List.getElem_mem ..)
 have b1:=hb (ds[1]'(by omega)) (List.getElem_mem ..)
 generalize ds[0]'(by omega)=d0 at i0 b0
 generalize ds[1]'(by omega)=d1 at i1 b1
 obtain ⟨k1,hk1⟩:=Int.eq_ofNat_of_zero_le (show 0 ≤ 3 + d0 % 10 by omega)
 obtain ⟨k2,hk2⟩:=Int.eq_ofNat_of_zero_le (show 0 ≤ 12 + d0 / 10 % 62 by omega)
 have c1:=ziB ds 2 k1
 have c2:=ziB ds 12 k2
 have hc2:∀ c ∈ (ds.drop (min 12 ds.length)).take (min k2 ds.length - min 12 ds.length),0 ≤ c:=fun c h=>(hb c (List.mem_of_mem_drop (List.mem_of_mem_take h))).1
 have hl1:((ds.drop (min 2 ds.length)).take (min k1 ds.length - min 2 ds.length)).length=k1 - 2:=by
  simp only [List.length_take,List.length_drop];omega
 have hl2:((ds.drop (min 12 ds.length)).take (min k2 ds.length - min 12 ds.length)).length ≤ 75:=by
  simp only [List.length_take,List.length_drop];omega
 generalize (ds.drop (min 2 ds.length)).take (min k1 ds.length - min 2 ds.length)=cs at c1 hl1
 generalize (ds.drop (min 12 ds.length)).take (min k2 ds.length - min 12 ds.length)=cs2 at c2 hl2 hc2
 have c1':cutA (ds.map A.int) (some 2) (some (3 + d0 % 10))=cs.map A.int:=by rw [hk1];simpa using c1
 have c2':cutA (ds.map A.int) (some 12) (some (12 + d0 / 10 % 62))=cs2.map A.int:=by rw [hk2];simpa using c2
 have rin:=zpd cs
 have wr:=zkK _ rin
 have rl:(cs.map rn85).length=k1 - 2:=by simp [hl1]
 obtain ⟨y3,q3⟩:=zif (fun Ω'=>zaF Ω' (.lst (cs.map A.int))=some (cs.map A.int)) (fun _=>rfl) (some (.scr ns)) (some (.lst (ds.map A.int))) [zbm,zbl,zbn] cs [] none (by simp;omega)
 rw [List.nil_append] at q3
 generalize cs.map rn85=R at rin wr rl q3
 have hT:Tn R:=fun r hr=>by have:=rin r hr;omega
 have hw60:whole R ≤ 60:=by omega
 have hw1:1 ≤ whole R:=by omega
 have nl:=zfD hT
 have fl:=zi9 hT
 have al:=ztQ R (fun r hr=>by have:=rin r hr;omega) (by omega) [zbm,zbl,zbn, .dead]
 obtain ⟨es,he1,he2,dw⟩:=zql (zaD R) (by omega) (by omega) cs2 hc2 (by omega) d1 b1.1 [zbm,zbl,zbn, .dead]
 have sl:=zrn es [zbm,zbl,zbn, .dead]
 generalize slkF 0 none es=s at sl
 have hsm:∀ e ∈ es,za6 e.2.1∧za6 e.2.2:=fun e h=>by
  obtain ⟨a,b⟩:=he1 e h
  unfold za6;omega
 have wg:=znb hT (by omega) es hsm [zbm,zbl,zbn, .dead]
 have nll:(((zaD R).map A.int).length:Int)=whole R:=by simpa using nl
 have s1:(1:Nat) ≤ sizeLine:=by decide
 have s2:(2:Nat) ≤ sizeLine:=by decide
 have s4:(4:Nat) ≤ sizeLine:=by decide
 have d16:CDiv d1 16:=⟨by decide,by decide⟩
 have d128:CDiv d1 128:=⟨by decide,by decide⟩
 have d10:CDiv d0 10:=⟨by decide,by decide⟩
 have hsd:∀ Ω,zaF Ω (.lst (ds.map A.int))=some (ds.map A.int):=fun _=>rfl
 have hld:∀ Ω,zaH Ω (.lst (ds.map A.int))=some (ds.map A.int):=fun _=>rfl
 obtain ⟨l,hl6⟩ : ∃ l:Int,(vCl zj9 (zad (cI 0) (zad (vOp (gSub) (vCl (zaz 1 zde) (zad (vVar 5) a0)) (vCl zn2 (zad (vOp gEq (vOp (gMod) (vOp (gDiv) (vOp gIx (vVar 1) (cI 1)) (cI 16)) (cI 8)) (cI 0)) a0))) a0))) [some (.scr ns),some (.lst (ds.map A.int)),some (.lst (zaf R)),y3,some (.lst ((zaD R).map A.int)),some (.lst (encL es)),none,none,none] [zbm,zbl,zbn, .dead]=some (.ok (.int l),[zbm,zbl,zbn, .dead]):=by
  generalize ds.map A.int=u at i1 hsd
  by_cases c:d1 / 16 % 8=0
  ·exact ⟨max 0 (s - 1),by simp [zaz,sl,hsd,i1,d16,c]⟩
  ·exact ⟨max 0 (s - 0),by simp [zaz,sl,hsd,i1,d16,c]⟩
 have hb0:=zsZ R 0 0 rin (by omega)
 let p:Po:=⟨whole R,l,d1 / 128 % 3,es⟩
 have du:=zsM R p hb0 rfl
 have fm:za9 [encQ p] [zbm,zbl,zbn, .dead]=some (.ok (fbA (whole R) l (d1 / 128 % 3) es),[zbm,zbl,zbn, .dead]):=zov (whole R) l (d1 / 128 % 3) es (by omega) _
 have jd:=zmk R p (by omega) (by show es.length ≤ 1000;omega) (by
  rw [du]
  cases fbP p.s p.l p.d p.es with
  | some j=>exact .inl ⟨j,rfl⟩
  | none=>cases wrF R 0 0 p.es with
   | some j=>exact .inr (.inl ⟨j,rfl⟩)
   | none=>exact .inr (.inr rfl)) [zbm,zbl,zbn, .dead]
 have ne:=zlh (Ω:=[zbm,zbl,zbn, .dead]) (znV (dueW R p))
 have cD:sIf (zay (vOp (gIsN true) (vCl (zaz 1 za9) (zad (vVar 7) a0)) cN))
   (sAsg (vLst false (zad (cS "pouch") (zad (vCl (zaz 1 za9) (zad (vVar 7) a0)) a0))) (gN 8))
   (sIf (zay (vOp (gIsN true) (vCl (zaz 2 zbc) (zad (vVar 4) (zad (vVar 5) a0))) cN))
    (sAsg (vLst false (zad (cS "wrong") (zad (vCl (zaz 2 zbc) (zad (vVar 4) (zad (vVar 5) a0))) a0))) (gN 8))
    sNx) [some (.scr ns),some (.lst (ds.map A.int)),some (.lst (zaf R)),y3,some (.lst ((zaD R).map A.int)),some (.lst (encL es)),some (.int l),some (encQ p),some (.lst [.str "good", .int 0])] [zbm,zbl,zbn, .dead]
   = some (.nx,[some (.scr ns),some (.lst (ds.map A.int)),some (.lst (zaf R)),y3,some (.lst ((zaD R).map A.int)),some (.lst (encL es)),some (.int l),some (encQ p),some (zfn (dueW R p))],[zbm,zbl,zbn, .dead]):=by
  rw [du]
  have ep:fbP p.s p.l p.d p.es=fbP (whole R) l (d1 / 128 % 3) es:=rfl
  have ew:wrF R 0 0 p.es=wrF R 0 0 es:=rfl
  rw [ep,ew]
  unfold fbA at fm
  unfold wrA at wg
  generalize encQ p=P at fm
  generalize (zaD R).map A.int=NL at wg
  generalize encL es=EL at wg
  cases hf:fbP (whole R) l (d1 / 128 % 3) es with
  | some j =>
   rw [hf] at fm
   simp [zaz,fm,zh5,s2,zfn]
  | none =>
   rw [hf] at fm
   cases hw:wrF R 0 0 es with
   | some j =>
    rw [hw] at wg
    simp [zaz,fm,wg,zh5,s2,zfn]
   | none =>
    rw [hw] at wg
    simp [zaz,fm,wg,zh5,zfn]
 have cA:(vOr (vOp gNe (vOp gIx (vVar 8) (cI 0)) (cS "good")) (vCl (zaz 3 zdc) (zad (vVar 2) (zad (vVar 4) (zad (vVar 7) a0))))) [some (.scr ns),some (.lst (ds.map A.int)),some (.lst (zaf R)),y3,some (.lst ((zaD R).map A.int)),some (.lst (encL es)),some (.int l),some (encQ p),some (zfn (dueW R p))] [zbm,zbl,zbn, .dead]=some (.ok (.bl true),[zbm,zbl,zbn, .dead]):=by
  have p1:pur 8 (.str "pouch")=true:=by
   have:PyData.canLay0 (.str "pouch")=true:=by decide +kernel
   simp [pur,this]
  have p2:pur 8 (.str "wrong")=true:=by
   have:PyData.canLay0 (.str "wrong")=true:=by decide +kernel
   simp [pur,this]
  have p3:pur 8 (.str "good")=true:=by
   have:PyData.canLay0 (.str "good")=true:=by decide +kernel
   simp [pur,this]
  have n1:=znU "pouch" p1 (by decide) [zbm,zbl,zbn, .dead]
  have n2:=znU "wrong" p2 (by decide) [zbm,zbl,zbn, .dead]
  have n3:=zlh (Ω:=[zbm,zbl,zbn, .dead]) p3
  have a0:∀ (x y:A),atI [x,y] 0=some x:=fun _ _=>rfl
  rw [zsM R p hb0 rfl]
  cases hf:fbP p.s p.l p.d p.es with
  | some j=>simp [zfn,zaF,a0,n1]
  | none =>
   cases hw:wrF R 0 0 p.es with
   | some j=>simp [zfn,zaF,a0,n2]
   | none =>
    have gd:Gd R p:=zsk hT (by rw [du,hf,hw])
    have tl:=zqi gd (by omega) (by show es.length ≤ 1000;omega) (by omega) [zbm,zbl,zbn, .dead] ⟨rfl,rfl,rfl⟩
    generalize encQ p=P at tl
    generalize (zaD R).map A.int=NL at tl
    generalize zaf R=RL at tl
    simp [zfn,zaF,a0,n3,zaz,tl]
 refine ⟨_,show trim [zbm,zbl,zbn] (outR (zfN [some (.scr ns),none,none,none,none,none,none,none,none] [zbm,zbl,zbn]))=some (.ok (.bl true),[zbm,zbl,zbn]) from ?_⟩
 have hgo:zfN [some (.scr ns),none,none,none,none,none,none,none,none] [zbm,zbl,zbn]=some (.ret (.bl true),[some (.scr ns),some (.lst (ds.map A.int)),some (.lst (zaf R)),y3,some (.lst ((zaD R).map A.int)),some (.lst (encL es)),some (.int l),some (encQ p),some (zfn (dueW R p))],[zbm,zbl,zbn, .dead]):=by
  unfold zfN
  rw [zak (ρ1:=[some (.scr ns),some (.lst (ds.map A.int)),none,none,none,none,none,none,none]) (Ω':=[zbm,zbl,zbn]) (by
   have dr':zbr [.scr ns, .int 75] [zbm,zbl,zbn]=some (.ok (.lst (ds.map A.int)),[zbm,zbl,zbn]):=dr
   generalize ds.map A.int=u at dr'
   simp [zaz,dr'])]
  rw [zak (ρ1:=[some (.scr ns),some (.lst (ds.map A.int)),some (.cel 3),none,none,none,none,none,none]) (Ω':=[zbm,zbl,zbn, .lst []]) (by simp [mkL])]
  rw [zak (ρ1:=[some (.scr ns),some (.lst (ds.map A.int)),some (.cel 3),y3,none,none,none,none,none]) (Ω':=[zbm,zbl,zbn, .lst (zaf R)]) (by
   rw [forO (S:=srcOf (.lst (cs.map A.int)) (cs.map A.int)) (Ω':=[zbm,zbl,zbn, .lst []]) (by
    generalize cs.map A.int=w at c1'
    generalize ds.map A.int=u at i0 hsd hld c1'
    simp [hsd,hld,i0,c1'])]
   exact q3)]
  rw [zqH (k:=3) (ds:=zaf R) rfl rfl]
  show sSeq _ _ [some (.scr ns),some (.lst (ds.map A.int)),some (.lst (zaf R)),y3,none,none,none,none,none] [zbm,zbl,zbn, .dead]=_
  rw [zak (ρ1:=[some (.scr ns),some (.lst (ds.map A.int)),some (.lst (zaf R)),y3,some (.lst ((zaD R).map A.int)),none,none,none,none]) (Ω':=[zbm,zbl,zbn, .dead]) (by
   generalize (zaD R).map A.int=NL at al
   simp [zaz,al])]
  rw [zak (ρ1:=[some (.scr ns),some (.lst (ds.map A.int)),some (.lst (zaf R)),y3,some (.lst ((zaD R).map A.int)),some (.lst (encL es)),none,none,none]) (Ω':=[zbm,zbl,zbn, .dead]) (by
   generalize (zaD R).map A.int=NL at dw
   generalize encL es=EL at dw
   generalize cs2.map A.int=w at c2' dw
   generalize ds.map A.int=u at i0 i1 hsd hld c2'
   simp [zaz,hsd,hld,i0,i1,d10,c2',dw])]
  rw [zak (ρ1:=[some (.scr ns),some (.lst (ds.map A.int)),some (.lst (zaf R)),y3,some (.lst ((zaD R).map A.int)),some (.lst (encL es)),some (.int l),none,none]) (Ω':=[zbm,zbl,zbn, .dead]) (by
   unfold sAsg
   rw [zmD hl6]
   simp)]
  rw [zak (ρ1:=[some (.scr ns),some (.lst (ds.map A.int)),some (.lst (zaf R)),y3,some (.lst ((zaD R).map A.int)),some (.lst (encL es)),some (.int l),some (encQ p),none]) (Ω':=[zbm,zbl,zbn, .dead]) (by
   have eQ:encQ p = .tup [.int (whole R), .int l, .int (d1 / 128 % 3), .lst (encL es)]:=rfl
   rw [eQ]
   have hln:∀ Ω,zaH Ω (.lst ((zaD R).map A.int))=some ((zaD R).map A.int):=fun _=>rfl
   generalize (zaD R).map A.int=NL at nll hln
   generalize encL es=EL
   generalize ds.map A.int=u at i1 hsd
   simp [hsd,i1,d128,s4,nll])]
  rw [zak (ρ1:=[some (.scr ns),some (.lst (ds.map A.int)),some (.lst (zaf R)),y3,some (.lst ((zaD R).map A.int)),some (.lst (encL es)),some (.int l),some (encQ p),some (.lst [.str "good", .int 0])]) (Ω':=[zbm,zbl,zbn, .dead]) (by
   generalize encQ p=P
   simp [s2])]
  rw [zak cD]
  rw [zak (ρ1:=[some (.scr ns),some (.lst (ds.map A.int)),some (.lst (zaf R)),y3,some (.lst ((zaD R).map A.int)),some (.lst (encL es)),some (.int l),some (encQ p),some (zfn (dueW R p))]) (Ω':=[zbm,zbl,zbn, .dead]) (by
   generalize zfn (dueW R p)=T at jd ne
   generalize encQ p=P at jd
   generalize zaf R=RL at jd
   simp [zaz,jd,ne])]
  unfold sRet
  rw [zmD cA]
 rw [hgo]
 simp only [zlL]
 exact zeg (Ω:=[zbm,zbl,zbn]) (Δ:=[.dead]) (by simp only [Cl])
end M
namespace K85
open PySem L2 V2 PyProof.Rows M
def top (i:Nat):Stmt:=PySem.Challenge.pw_rankpouch_k85_whole_judge.main.body.getD i (.Pass ⟨0,0,0,0⟩)
abbrev zcq:Stmt:=top 8
abbrev zcY:Stmt:=top 9
abbrev zcx:Stmt:=top 10
abbrev zc3:Stmt:=top 11
abbrev zco:Stmt:=top 12
abbrev zbW:Stmt:=top 13
abbrev zbZ:Stmt:=top 14
abbrev zdt:Stmt:=top 17
abbrev zd4:Stmt:=top 18
abbrev zcV:Stmt:=top 19
abbrev zf8:Stmt:=top 21
abbrev zbY:Stmt:=top 22
abbrev zbC:Stmt:=top 24
abbrev zgA:Stmt:=top 26
abbrev zeH:Stmt:=top 27
abbrev zbs:Stmt:=top 28
abbrev zaR:Stmt:=top 29
abbrev zdp:Stmt:=top 31
abbrev zcw:Stmt:=top 32
abbrev zcf:Stmt:=top 33
abbrev zbK:Stmt:=top 34
abbrev zcz:Stmt:=top 35
abbrev zbT:Stmt:=top 36
abbrev zc4:Stmt:=top 37
abbrev zdq:Stmt:=top 39
abbrev zcA:Stmt:=top 40
abbrev zcv:Stmt:=top 41
abbrev zcy:Stmt:=top 42
abbrev zbM:Stmt:=top 43
abbrev zbV:Stmt:=top 44
abbrev zbS:Stmt:=top 45
abbrev zct:Stmt:=top 46
abbrev ziR:Stmt:=top 47
abbrev zds:Stmt:=inClass (top 4) 0
theorem zml:zlV zds "at" "RankError" "self" "at":=⟨⟨rfl,rfl,rfl,by decide +kernel,rfl,by decide +kernel,by decide +kernel⟩,rfl,rfl,rfl,by decide +kernel,⟨_,_,_,_,_,_,_,_,_,_,rfl,fun _=>rfl,fun _=>rfl,fun _=>⟨_,rfl⟩,fun _=>rfl,fun _=>rfl,fun Y hN hS=>zlf (by rw [hN];rfl) (by rw [hS];exact .inl rfl)⟩⟩
abbrev ze6:Stmt:=inClass (top 2) 0
theorem zpe:zlV ze6 "at" "RankError" "self" "at":=⟨⟨rfl,rfl,rfl,by decide +kernel,rfl,by decide +kernel,by decide +kernel⟩,rfl,rfl,rfl,by decide +kernel,⟨_,_,_,_,_,_,_,_,_,_,rfl,fun _=>rfl,fun _=>rfl,fun _=>⟨_,rfl⟩,fun _=>rfl,fun _=>rfl,fun Y hN hS=>zoX (by rw [hN];rfl) (by rw [hS];exact .inl rfl)⟩⟩
abbrev zfh:Stmt:=inClass (top 6) 0
theorem zon:zlV zfh "at" "RankError" "self" "at":=⟨⟨rfl,rfl,rfl,by decide +kernel,rfl,by decide +kernel,by decide +kernel⟩,rfl,rfl,rfl,by decide +kernel,⟨_,_,_,_,_,_,_,_,_,_,rfl,fun _=>rfl,fun _=>rfl,fun _=>⟨_,rfl⟩,fun _=>rfl,fun _=>rfl,fun Y hN hS=>zlf (by rw [hN];rfl) (by rw [hS];exact .inl rfl)⟩⟩
structure Blt (mg:Str→Option Value):Prop where
 enumerate:mg "enumerate" = none
 int:mg "int" = none
 len:mg "len" = none
 list:mg "list" = none
 max:mg "max" = none
 min:mg "min" = none
 range:mg "range" = none
 sorted:mg "sorted" = none
 sum:mg "sum" = none
section
variable {P:Program} {w:World} {K:PySem.W.Frag} {mg:Str→Option Value} {base:Heap}
theorem zdb:zaq ["pouch", "size", "slack", "depth", "entries"] ["pouch"] (zab zcY):=⟨rfl,rfl,rfl,by decide +kernel,rfl,by decide +kernel,by decide +kernel⟩
theorem zkL (B:Blt mg) (h:HasFn K mg "good_head" zcY):DefV P w K mg base "good_head" 1 ["pouch"] zbj:=by
 refine DefV.of h zdb (fun _ _ _ _ _ _ us hl=>us1 us hl (fun _=>rfl)) (fun f cdv A outer s H E hr=>?_)
 exact (zae (zao (i:=1) zdb.nd rfl (Or.inl rfl) (zas (vv 0) zac (fun _ _=>rfl)))
  (zae (zao (i:=2) zdb.nd rfl (Or.inl rfl) (zas (vv 0) zac (fun _ _=>rfl)))
  (zae (zao (i:=3) zdb.nd rfl (Or.inl rfl) (zas (vv 0) zac (fun _ _=>rfl)))
  (zae (zao (i:=4) zdb.nd rfl (Or.inl rfl) (zas (vv 0) zac (fun _ _=>rfl)))
  (zae (zbX (VW.vt (zfp (zaE o_lt (vv 1) zac (zam _)) (zfp (zaE o_lt (vv 2) zac (zam _)) (zep (zaE o_lt (vv 3) zac (zam _))))))
   (zah (zaI zfs))
   zaM)
  (zah (zaI (zbD (o_eq hr.units) (zbD (o_eq hr.units) (vv 1) zac (zam _)) (zbD (o_eq hr.units) (zaL zfm rfl B.len PySem.boot_len (zaa (vv 4) zag)) zac (zam _)) (zam _)))))))))
theorem zj6:zaq ["entry", "place"] ["entry", "place"] (zab zc3):=⟨rfl,rfl,rfl,by decide +kernel,rfl,by decide +kernel,by decide +kernel⟩
theorem zkZ (B:Blt mg) (h:HasFn K mg "stands_at" zc3):DefV P w K mg base "stands_at" 1 ["entry", "place"] zcm:=by
 refine DefV.of h zj6 (fun _ _ _ _ _ _ us hl=>us2 us hl (fun _ _=>rfl)) (fun f cdv A outer s H E hr=>?_)
 exact (zah (zaI (zlB (zbD (o_eq hr.units) (zas (vv 0) zac (fun _ _=>rfl)) (vv 1) (zam _)) (zgJ (zbD (o_eq hr.units) (zas (vv 0) zac (fun _ _=>rfl)) (vv 1) (zam _))))))
theorem zd5:zaq ["entry", "slack", "least", "most"] ["entry", "slack"] (zab zco):=⟨rfl,rfl,rfl,by decide +kernel,rfl,by decide +kernel,by decide +kernel⟩
theorem zj7 (B:Blt mg) (h:HasFn K mg "good_alone" zco):DefV P w K mg base "good_alone" 1 ["entry", "slack"] zcs:=by
 refine DefV.of h zd5 (fun _ _ _ _ _ _ us hl=>us2 us hl (fun _ _=>rfl)) (fun f cdv A outer s H E hr=>?_)
 exact (zae (zao (i:=2) zd5.nd rfl (Or.inl rfl) (zas (vv 0) zac (fun _ _=>rfl)))
  (zae (zao (i:=3) zd5.nd rfl (Or.inl rfl) (zas (vv 0) zac (fun _ _=>rfl)))
  (zah (zaI (zlB (zbD o_le (vv 2) (vv 3) (zam _)) (zgJ (zbD o_le (zal zda (vv 3) (vv 2)) (vv 1) (zam _))))))))
theorem zh0:zaq ["before", "entry", "slack"] ["before", "entry", "slack"] (zab zbZ):=⟨rfl,rfl,rfl,by decide +kernel,rfl,by decide +kernel,by decide +kernel⟩
theorem zjs (B:Blt mg) (h:HasFn K mg "near_enough" zbZ):DefV P w K mg base "near_enough" 1 ["before", "entry", "slack"] zb0:=by
 refine DefV.of h zh0 (fun _ _ _ _ _ _ us hl=>us3 us hl (fun _ _ _=>rfl)) (fun f cdv A outer s H E hr=>?_)
 exact (zah (zaI (zoo (zbD (o_eq hr.units) (zas (vv 1) zac (fun _ _=>rfl)) (zas (vv 0) zac (fun _ _=>rfl)) (zam _)) (zgJ (zbD o_le (zas (vv 1) zac (fun _ _=>rfl)) (zal (zbH false) (zal (zbH false) (zas (vv 0) zac (fun _ _=>rfl)) (vv 2)) zac) (zam _))))))
theorem zfG:zaq ["row", "times_of", "number", "times"] ["row"] (zab zd4):=⟨rfl,rfl,rfl,by decide +kernel,rfl,by decide +kernel,by decide +kernel⟩
theorem zoh (B:Blt mg) (h:HasFn K mg "packed" zd4):DefV P w K mg base "packed" 1 ["row"] zg1:=by
 refine DefV.of h zfG (fun _ _ _ _ _ _ us hl=>us1 us hl (fun _=>rfl)) (fun f cdv A outer s H E hr=>?_)
 exact (zae (zao (i:=1) zfG.nd rfl (Or.inr rfl) znJ)
  (zae (zdz zai.passes rfl (zfT (vv 0)) (zdH rfl (zaA (zau (i:=2) zfG.nd rfl (Or.inl rfl)) (zaA (zau (i:=3) zfG.nd rfl (Or.inl rfl)) zcQ)))
   (zah (zmX (Room.zik hr) (vv 1) (vv 2) (zal (zbH false) (zpl (Room.zik hr) (vv 1) (vv 2) zac ⟨rfl,rfl,rfl,rfl⟩) (vv 3)))))
  (zah (zaI (zoH false ["number"] [1] rfl (LcOk.of (zab zd4) ["row", "times_of", "number", "times"] rfl rfl (by decide +kernel)) (zfT (zaL (zmM rfl false) rfl B.sorted boot_sorted (zaa (vv 1) zag))) (fun cl C s H fp=>⟨(zau (i:=0) (show (["number", "times_of"] : List Str).Nodup by decide +kernel) rfl (Or.inl rfl)),zpR,(zdO (zaa (vv 0) (zaa (zns (Room.zik hr) (vv 1) (vv 0) (fun _ _=>rfl)) zag)))⟩))))))
theorem zcD:zaq ["pouch", "at", "entries", "low", "high"] ["pouch", "at"] (zab zbC):=⟨rfl,rfl,rfl,by decide +kernel,rfl,by decide +kernel,by decide +kernel⟩
theorem zh4 (B:Blt mg) (h:HasFn K mg "bounds_ahead" zbC):DefV P w K mg base "bounds_ahead" 1 ["pouch", "at"] zaP:=by
 refine DefV.of h zcD (fun _ _ _ _ _ _ us hl=>us2 us hl (fun _ _=>rfl)) (fun f cdv A outer s H E hr=>?_)
 exact (zae (zao (i:=2) zcD.nd rfl (Or.inl rfl) (zas (vv 0) zac (fun _ _=>rfl)))
  (zae (zao (i:=3) zcD.nd rfl (Or.inl rfl) (zr5 (zaE o_gt (vv 1) zac (zam _)) (zas (zas (vv 2) (zal zda (vv 1) zac) (fun _ _=>rfl)) zac (fun _ _=>rfl)) zac))
  (zae (zao (i:=4) zcD.nd rfl (Or.inl rfl) (zr5 (zaE o_lt (vv 1) (zaL zfm rfl B.len PySem.boot_len (zaa (vv 2) zag)) (zam _)) (zal zda (zas (zas (vv 2) (vv 1) (fun _ _=>rfl)) zac (fun _ _=>rfl)) zac) (zas (vv 0) zac (fun _ _=>rfl))))
  (zah (zaI (zdO (zaa (vv 3) (zaa (vv 4) zag))))))))
theorem zhO:zaq ["_law_cell", "_law_k", "_law_first"] ["_law_cell", "_law_k"] (zab zdp):=⟨rfl,rfl,rfl,by decide +kernel,rfl,by decide +kernel,by decide +kernel⟩
theorem zmi (B:Blt mg) (h:HasFn K mg "_law_mix" zdp):DefV P w K mg base "_law_mix" 1 ["_law_cell", "_law_k"] zbA:=by
 refine DefV.of h zhO (fun _ _ _ _ _ _ us hl=>us2 us hl (fun _ _=>rfl)) (fun f cdv A outer s H E hr=>?_)
 exact (zae (zao (i:=2) zhO.nd rfl (Or.inl rfl) (zal zdh (zal zmg (zal (zbH false) (vv 0) zac) (zal (zbH false) zac (zal zmg zac (vv 1)))) zac))
  (zah (zaI (zal zdh (zal (zbH false) (zal (zbH false) (zal zmg (zal zd1 (vv 2) zac) zac) (zal zmg (vv 2) (zal (zbH false) (zal zmg (vv 1) (vv 1)) zac))) (vv 1)) zac))))
theorem zkk:zaq ["_law_row", "_law_number"] ["_law_row", "_law_number"] (zab zcf):=⟨rfl,rfl,rfl,by decide +kernel,rfl,by decide +kernel,by decide +kernel⟩
theorem zla (B:Blt mg) (h:HasFn K mg "_law_upto" zcf):DefV P w K mg base "_law_upto" 1 ["_law_row", "_law_number"] zea:=by
 refine DefV.of h zkk (fun _ _ _ _ _ _ us hl=>us2 us hl (fun _ _=>rfl)) (fun f cdv A outer s H E hr=>?_)
 exact (zah (zaI (zaL (zr8 rfl) rfl B.sum boot_sum (zaa (zoH false ["_law_value", "_law_times"] [1] rfl (LcOk.of (zab zcf) ["_law_row", "_law_number"] rfl rfl (by decide +kernel)) (zfT (vv 0)) (fun cl C s H fp=>⟨(zdH rfl (zaA (zau (i:=0) (show (["_law_value", "_law_times", "_law_number"] : List Str).Nodup by decide +kernel) rfl (Or.inl rfl)) (zaA (zau (i:=1) (show (["_law_value", "_law_times", "_law_number"] : List Str).Nodup by decide +kernel) rfl (Or.inl rfl)) zcQ))),(zk8 (zaE o_le (vv 0) (vv 2) (zam _))),(vv 1)⟩)) zag))))
theorem zi1:zaq ["_law_row", "_law_number"] ["_law_row", "_law_number"] (zab zbK):=⟨rfl,rfl,rfl,by decide +kernel,rfl,by decide +kernel,by decide +kernel⟩
theorem zjZ (B:Blt mg) (h:HasFn K mg "_law_below" zbK):DefV P w K mg base "_law_below" 1 ["_law_row", "_law_number"] zdN:=by
 refine DefV.of h zi1 (fun _ _ _ _ _ _ us hl=>us2 us hl (fun _ _=>rfl)) (fun f cdv A outer s H E hr=>?_)
 exact (zah (zaI (zaL (zr8 rfl) rfl B.sum boot_sum (zaa (zoH false ["_law_value", "_law_times"] [1] rfl (LcOk.of (zab zbK) ["_law_row", "_law_number"] rfl rfl (by decide +kernel)) (zfT (vv 0)) (fun cl C s H fp=>⟨(zdH rfl (zaA (zau (i:=0) (show (["_law_value", "_law_times", "_law_number"] : List Str).Nodup by decide +kernel) rfl (Or.inl rfl)) (zaA (zau (i:=1) (show (["_law_value", "_law_times", "_law_number"] : List Str).Nodup by decide +kernel) rfl (Or.inl rfl)) zcQ))),(zk8 (zaE o_lt (vv 0) (vv 2) (zam _))),(vv 1)⟩)) zag))))
theorem zdo:zaq ["_law_pouch", "_law_k", "_law_number", "_law_least", "_law_most"] ["_law_pouch", "_law_k"] (zab zcz):=⟨rfl,rfl,rfl,by decide +kernel,rfl,by decide +kernel,by decide +kernel⟩
theorem zjt (B:Blt mg) (h:HasFn K mg "_law_alone" zcz):DefV P w K mg base "_law_alone" 1 ["_law_pouch", "_law_k"] zcu:=by
 refine DefV.of h zdo (fun _ _ _ _ _ _ us hl=>us2 us hl (fun _ _=>rfl)) (fun f cdv A outer s H E hr=>?_)
 exact (zae (zhW (zas (zas (vv 0) zac (fun _ _=>rfl)) (vv 1) (fun _ _=>rfl)) (zdH rfl (zaA (zau (i:=2) zdo.nd rfl (Or.inl rfl)) (zaA (zau (i:=3) zdo.nd rfl (Or.inl rfl)) (zaA (zau (i:=4) zdo.nd rfl (Or.inl rfl)) zcQ)))))
  (zae (zbX (VW.vt (zfp (VW.vt (zgO (zaE (o_eq hr.units) (vv 1) zac (zam _)) (zeN (zaE (o_ne hr.units) (zdO (zaa (vv 3) (zaa (vv 4) zag))) (zdO (zaa zac (zaa zac zag))) (zam _))))) (zep (VW.vt (zgO (zaE (o_eq hr.units) (vv 1) (zal zda (zaL zfm rfl B.len PySem.boot_len (zaa (zas (vv 0) zac (fun _ _=>rfl)) zag)) zac) (zam _)) (zeN (zaE (o_ne hr.units) (zdO (zaa (vv 3) (zaa (vv 4) zag))) (zdO (zaa (zas (vv 0) zac (fun _ _=>rfl)) (zaa (zas (vv 0) zac (fun _ _=>rfl)) zag))) (zam _))))))))
   (zah (zaI zfs))
   zaM)
  (zah (zaI (zlB (zbD o_le (vv 3) (vv 4) (zam _)) (zgJ (zbD o_le (zal zda (vv 4) (vv 3)) (zas (vv 0) zac (fun _ _=>rfl)) (zam _))))))))
theorem zbi:zaq ["_law_pouch", "_law_k", "_law_number", "_law_least", "_law_most", "_law_other", "_law_low", "_law_high"] ["_law_pouch", "_law_k"] (zab zbT):=⟨rfl,rfl,rfl,by decide +kernel,rfl,by decide +kernel,by decide +kernel⟩
theorem zjd (B:Blt mg) (h:HasFn K mg "_law_beside" zbT):DefV P w K mg base "_law_beside" 1 ["_law_pouch", "_law_k"] zaJ:=by
 refine DefV.of h zbi (fun _ _ _ _ _ _ us hl=>us2 us hl (fun _ _=>rfl)) (fun f cdv A outer s H E hr=>?_)
 exact (zae (zhW (zas (zas (vv 0) zac (fun _ _=>rfl)) (vv 1) (fun _ _=>rfl)) (zdH rfl (zaA (zau (i:=2) zbi.nd rfl (Or.inl rfl)) (zaA (zau (i:=3) zbi.nd rfl (Or.inl rfl)) (zaA (zau (i:=4) zbi.nd rfl (Or.inl rfl)) zcQ)))))
  (zae (zhW (zas (zas (vv 0) zac (fun _ _=>rfl)) (zal zda (vv 1) zac) (fun _ _=>rfl)) (zdH rfl (zaA (zau (i:=5) zbi.nd rfl (Or.inl rfl)) (zaA (zau (i:=6) zbi.nd rfl (Or.inl rfl)) (zaA (zau (i:=7) zbi.nd rfl (Or.inl rfl)) zcQ)))))
  (zae (zbX (VW.vt (zfp (zaE o_lt (vv 2) (vv 5) (zam _)) (zfp (zaE o_le (vv 3) (vv 6) (zam _)) (zep (zaE o_le (vv 4) (vv 7) (zam _))))))
   (zah (zaI zfs))
   zaM)
  (zah (zaI (zoo (zbD (o_eq hr.units) (vv 2) (vv 5) (zam _)) (zgJ (zbD o_le (zal zda (vv 4) (vv 6)) (zal (zbH false) (zas (vv 0) zac (fun _ _=>rfl)) zac) (zam _)))))))))
theorem zdA:zaq ["_law_row", "_law_found", "_law_value", "_law_times"] ["_law_row"] (zab zdq):=⟨rfl,rfl,rfl,by decide +kernel,rfl,by decide +kernel,by decide +kernel⟩
theorem zlY (B:Blt mg) (h:HasFn K mg "_law_all" zdq):DefV P w K mg base "_law_all" 1 ["_law_row"] ze4:=by
 refine DefV.of h zdA (fun _ _ _ _ _ _ us hl=>us1 us hl (fun _=>rfl)) (fun f cdv A outer s H E hr=>?_)
 exact (zae (zao (i:=1) zdA.nd rfl (Or.inl rfl) (zbF false zag))
  (zae (zdz zai.passes rfl (zfT (vv 0)) (zdH rfl (zaA (zau (i:=2) zdA.nd rfl (Or.inl rfl)) (zaA (zau (i:=3) zdA.nd rfl (Or.inl rfl)) zcQ)))
   (zah (zao (i:=1) zdA.nd rfl (Or.inl rfl) (zal (zbH false) (vv 1) (zal (ztC false) (zbF false (zaa (vv 2) zag)) (vv 3))))))
  (zah (zaI (zaL (zmV false) rfl B.sorted boot_sorted (zaa (vv 1) zag))))))
theorem zbv:zaq ["_law_numbers", "_law_place", "_law_cell", "_law_number", "_law_least", "_law_most"] ["_law_numbers", "_law_place", "_law_cell"] (zab zcA):=⟨rfl,rfl,rfl,by decide +kernel,rfl,by decide +kernel,by decide +kernel⟩
theorem zjK (B:Blt mg) (h:HasFn K mg "_law_entry" zcA):DefV P w K mg base "_law_entry" 1 ["_law_numbers", "_law_place", "_law_cell"] zdP:=by
 refine DefV.of h zbv (fun _ _ _ _ _ _ us hl=>us3 us hl (fun _ _ _=>rfl)) (fun f cdv A outer s H E hr=>?_)
 exact (zae (zao (i:=3) zbv.nd rfl (Or.inl rfl) (zas (vv 0) (zal zda (vv 1) zac) (fun _ _=>rfl)))
  (zae (zao (i:=4) zbv.nd rfl (Or.inl rfl) (zal zda (vv 1) (zas (zbF false (zaa zac (zaa zac (zaa zac (zaa (zal zdh (zal zd1 (vv 2) zac) zac) zag))))) (zal zdh (vv 2) zac) (fun _ _=>rfl))))
  (zae (zao (i:=5) zbv.nd rfl (Or.inl rfl) (zal (zbH false) (vv 1) (zas (zbF false (zaa zac (zaa zac (zaa zac (zaa (zal zdh (zal zd1 (vv 2) zac) zac) zag))))) (zal zdh (zal zd1 (vv 2) zac) zac) (fun _ _=>rfl))))
  (zae (zbX (zaE (o_eq hr.units) (zal zdh (zal zd1 (vv 2) zac) zac) zac (zam _))
   (zah (zao (i:=3) zbv.nd rfl (Or.inl rfl) (zal (zbH false) (vv 3) (zas (zbF false (zaa zac (zaa (zal zda zac zac) zag))) (zal zdh (zal zd1 (vv 2) zac) zac) (fun _ _=>rfl)))))
   zaM)
  (zae (zbX (zaE (o_eq hr.units) (zal zdh (zal zd1 (vv 2) zac) zac) zac (zam _))
   (zae (zao (i:=4) zbv.nd rfl (Or.inl rfl) (zal zda (zal (zbH false) (vv 4) (zal zdh (zal zd1 (vv 2) zac) zac)) zac))
   (zah (zao (i:=5) zbv.nd rfl (Or.inl rfl) (zal zda (zal (zbH false) (vv 5) (zal zdh (zal zd1 (vv 2) zac) zac)) zac))))
   zaM)
  (zah (zaI (zdO (zaa (vv 3) (zaa (vv 4) (zaa (vv 5) zag)))))))))))
theorem zb4:zaq ["_law_entries", "_law_slack_here", "_law_k", "_law_entry_here"] ["_law_entries"] (zab zcy):=⟨rfl,rfl,rfl,by decide +kernel,rfl,by decide +kernel,by decide +kernel⟩
theorem zj3 (B:Blt mg) (h:HasFn K mg "_law_slack" zcy):DefV P w K mg base "_law_slack" 1 ["_law_entries"] zde:=by
 refine DefV.of h zb4 (fun _ _ _ _ _ _ us hl=>us1 us hl (fun _=>rfl)) (fun f cdv A outer s H E hr=>?_)
 exact (zae (zao (i:=1) zb4.nd rfl (Or.inl rfl) zac)
  (zae (zdz zai.passes rfl (zit rfl B.enumerate (vv 0)) (zdH rfl (zaA (zau (i:=2) zb4.nd rfl (Or.inl rfl)) (zaA (zau (i:=3) zb4.nd rfl (Or.inl rfl)) zcQ)))
   (zae (zao (i:=1) zb4.nd rfl (Or.inl rfl) (zaL (zju rfl) rfl B.max boot_max (zaa (vv 1) (zaa (zal zda (zas (vv 3) zac (fun _ _=>rfl)) (zas (vv 3) zac (fun _ _=>rfl))) zag))))
   (zah (zbX (VW.vt (zgO (zaE o_gt (vv 2) zac (zam _)) (zeN (zaE (o_ne hr.units) (zas (zas (vv 0) (zal zda (vv 2) zac) (fun _ _=>rfl)) zac (fun _ _=>rfl)) (zas (vv 3) zac (fun _ _=>rfl)) (zam _)))))
    (zah (zao (i:=1) zb4.nd rfl (Or.inl rfl) (zaL (zju rfl) rfl B.max boot_max (zaa (vv 1) (zaa (zal zda (zal zda (zas (vv 3) zac (fun _ _=>rfl)) (zas (zas (vv 0) (zal zda (vv 2) zac) (fun _ _=>rfl)) zac (fun _ _=>rfl))) zac) zag)))))
    zaM))))
  (zah (zaI (vv 1)))))
theorem zbw:zaq ["_law_numbers", "_law_entries", "_law_before", "_law_k", "_law_entry_here", "_law_found", "_law_place"] ["_law_numbers", "_law_entries"] (zab zbM):=⟨rfl,rfl,rfl,by decide +kernel,rfl,by decide +kernel,by decide +kernel⟩
theorem zjH (B:Blt mg) (h:HasFn K mg "_law_wrong" zbM):DefV P w K mg base "_law_wrong" 1 ["_law_numbers", "_law_entries"] zbc:=by
 refine DefV.of h zbw (fun _ _ _ _ _ _ us hl=>us2 us hl (fun _ _=>rfl)) (fun f cdv A outer s H E hr=>?_)
 exact (zae (zao (i:=2) zbw.nd rfl (Or.inl rfl) (zbF false (zaa zac zag)))
  (zae (zdz zai.passes rfl (zit rfl B.enumerate (vv 1)) (zdH rfl (zaA (zau (i:=3) zbw.nd rfl (Or.inl rfl)) (zaA (zau (i:=4) zbw.nd rfl (Or.inl rfl)) zcQ)))
   (zae (zao (i:=5) zbw.nd rfl (Or.inl rfl) (zbF true zag))
   (zae (zdz zai.passes rfl (zhz rfl B.range (zaa (zaL (zju rfl) rfl B.max boot_max (zaa zac (zaa (zas (vv 4) zac (fun _ _=>rfl)) zag))) (zaa (zal (zbH false) (zaL (zsj rfl) rfl B.min boot_min (zaa (zaL zfm rfl B.len PySem.boot_len (zaa (vv 0) zag)) (zaa (zas (vv 4) zac (fun _ _=>rfl)) zag))) zac) zag))) (zau (i:=6) zbw.nd rfl (Or.inr rfl))
    (zah (zbX (VW.vt (zgO (zaE (o_eq hr.units) (zas (vv 0) (zal zda (vv 6) zac) (fun _ _=>rfl)) (zas (vv 4) zac (fun _ _=>rfl)) (zam _)) (zeN (zaE (o_ne hr.units) (zoH false ["_law_one"] [6] rfl (LcOk.of (zab zbM) ["_law_numbers", "_law_entries", "_law_before", "_law_k", "_law_entry_here", "_law_found", "_law_place"] rfl rfl (by decide +kernel)) (zfT (vv 2)) (fun cl C s H fp=>⟨(zau (i:=0) (show (["_law_one", "_law_place"] : List Str).Nodup by decide +kernel) rfl (Or.inl rfl)),(zk8 (zaE o_lt (vv 0) (vv 1) (zam _))),(vv 0)⟩)) (zbF false zag) (zam _)))))
     (zah (zeR (zmj PySem.F.plainAttrs_list PySem.F.slot_list_append PySem.F.type_list_append zd0 ze5 (vv 5) (zaa (vv 6) zag))))
     zaM)))
   (zae (zbX (zaE (o_eq hr.units) (vv 5) (zbF false zag) (zam _))
    (zah (zaI (vv 3)))
    zaM)
   (zah (zao (i:=2) zbw.nd rfl (Or.inl rfl) (vv 5)))))))
  (zah (zaI zhx))))
theorem zdT:zaq ["_law_low_high", "_law_count", "_law_slack_here", "_law_low", "_law_high"] ["_law_low_high", "_law_count", "_law_slack_here"] (zab zbS):=⟨rfl,rfl,rfl,by decide +kernel,rfl,by decide +kernel,by decide +kernel⟩
theorem ziz (B:Blt mg) (h:HasFn K mg "_law_within" zbS):DefV P w K mg base "_law_within" 1 ["_law_low_high", "_law_count", "_law_slack_here"] zb5:=by
 refine DefV.of h zdT (fun _ _ _ _ _ _ us hl=>us3 us hl (fun _ _ _=>rfl)) (fun f cdv A outer s H E hr=>?_)
 exact (zae (zhW (vv 0) (zdH rfl (zaA (zau (i:=3) zdT.nd rfl (Or.inl rfl)) (zaA (zau (i:=4) zdT.nd rfl (Or.inl rfl)) zcQ))))
  (zah (zaI (zlB (zol o_le o_le (vv 3) (vv 1) (vv 4)) (zgJ (zbD o_le (zal zda (vv 4) (vv 3)) (vv 2) (zam _)))))))
theorem zhY:zaq ["before", "entry", "slack"] ["before", "entry", "slack"] (zab zbW):=⟨rfl,rfl,rfl,by decide +kernel,rfl,by decide +kernel,by decide +kernel⟩
theorem ziI (B:Blt mg) (h:HasFn K mg "good_beside" zbW) (zd6:DefV P w K mg base "near_enough" 1 ["before", "entry", "slack"] zb0):DefV P w K mg base "good_beside" 2 ["before", "entry", "slack"] zbf:=by
 refine DefV.of h zhY (fun _ _ _ _ _ _ us hl=>us3 us hl (fun _ _ _=>rfl)) (fun f cdv A outer s H E hr=>?_)
 exact (zae (zbX (VW.vt (zfp (zaE o_lt (zas (vv 1) zac (fun _ _=>rfl)) (zas (vv 0) zac (fun _ _=>rfl)) (zam _)) (zfp (zaE o_le (zas (vv 1) zac (fun _ _=>rfl)) (zas (vv 0) zac (fun _ _=>rfl)) (zam _)) (zep (zaE o_le (zas (vv 1) zac (fun _ _=>rfl)) (zas (vv 0) zac (fun _ _=>rfl)) (zam _))))))
   (zah (zaI zfs))
   zaM)
  (zah (zaI (zaV zai zd6 (hr.mono (by decide)) rfl (zaa (vv 0) (zaa (vv 1) (zaa (vv 2) zag)))))))
theorem zcB:zaq ["row", "places", "length", "number", "times"] ["row"] (zab zcV):=⟨rfl,rfl,rfl,by decide +kernel,rfl,by decide +kernel,by decide +kernel⟩
theorem zkS (B:Blt mg) (h:HasFn K mg "places_of" zcV) (ziD:DefV P w K mg base "packed" 1 ["row"] zg1):DefV P w K mg base "places_of" 2 ["row"] zee:=by
 refine DefV.of h zcB (fun _ _ _ _ _ _ us hl=>us1 us hl (fun _=>rfl)) (fun f cdv A outer s H E hr=>?_)
 exact (zae (zao (i:=1) zcB.nd rfl (Or.inl rfl) znJ)
  (zae (zao (i:=2) zcB.nd rfl (Or.inl rfl) zac)
  (zae (zdz zai.passes rfl (zfT (zaV zai ziD (hr.mono (by decide)) rfl (zaa (vv 0) zag))) (zdH rfl (zaA (zau (i:=3) zcB.nd rfl (Or.inl rfl)) (zaA (zau (i:=4) zcB.nd rfl (Or.inl rfl)) zcQ)))
   (zae (zmX (Room.zik hr) (vv 1) (vv 3) (zdO (zaa (zal (zbH false) (vv 2) zac) (zaa (zal (zbH false) (vv 2) (vv 4)) zag))))
   (zah (zao (i:=2) zcB.nd rfl (Or.inl rfl) (zal (zbH false) (vv 2) (vv 4))))))
  (zah (zaI (vv 1))))))
theorem za8:zaq ["entries", "holds", "start", "end", "middle"] ["entries", "holds"] (zab zaR):=⟨rfl,rfl,rfl,by decide +kernel,rfl,by decide +kernel,by decide +kernel⟩
theorem zdV (B:Blt mg) {qual:Str} {params:Arguments} {body:Expr} {scope:Scope} {y:Str} {cs:List Str} {fb:Ev→Mo A} (S0:zff scope y cs) (hbind:∀ (u:Value) cl pm c' ctv,bindArgs (PySem.W.kla_fn "<lambda>" qual params body scope cl pm (.ref c') ctv) ⟨[u],[]⟩ = pure [(y,u)]) (hV0:LamV P w K mg base qual body scope y cs fb) :
  ∀ (lf:Addr) (caps:List (Str × Int)),caps.map (·.1)=cs→∀ (f:Addr) (cdv:Value) (A:Around) (outer:List Env) (s:Shared) (H:Hp) (E:XK),Room 1 (A.deeper (envOfC "first_where" (zab zaR) s.heap.objs.size f cdv))→zh1 s.heap H lf qual params body scope caps →
   VSs (cxX P w K mg base ["entries", "holds", "start", "end", "middle"] "first_where" (zab zaR) f cdv A outer s H E) (fun _=>E) (zaj zaR) (zbu lf (lamG fb (caps.map (·.2)))):=by
 intro lf caps hc f cdv A outer s H E hr La
 subst hc
 have S:=S0
 have hV:=hV0
 exact (zae (zao (i:=2) za8.nd rfl (Or.inl rfl) zac)
  (zae (zao (i:=3) za8.nd rfl (Or.inl rfl) (zaL zfm rfl B.len PySem.boot_len (zaa (vv 0) zag)))
  (zae (zpa (fun _ _=>1000000) zai.passes (zaE o_lt (vv 2) (vv 3) (zam _))
   (zae (zao (i:=4) za8.nd rfl (Or.inl rfl) (zal zd1 (zal (zbH false) (vv 2) (vv 3)) zac))
   (zah (zbX (zez (zmc (i:=1) rfl La S (hr.mono (by decide)) hbind hV rfl (Or.inl rfl) (zas (vv 0) (vv 4) (fun _ _=>rfl))))
    (zah (zao (i:=3) za8.nd rfl (Or.inl rfl) (vv 4)))
    (zah (zao (i:=2) za8.nd rfl (Or.inl rfl) (zal (zbH false) (vv 4) zac)))))))
  (zah (zaI (vv 2))))))
theorem zbg:zaq ["_law_script", "_law_many", "_law_rest", "_law_mixed", "_law_seeds", "_law_found", "_law_k", "_law_at"] ["_law_script", "_law_many"] (zab zcw):=⟨rfl,rfl,rfl,by decide +kernel,rfl,by decide +kernel,by decide +kernel⟩
theorem zkm (B:Blt mg) (h:HasFn K mg "_law_draws" zcw) (zfj:DefV P w K mg base "_law_mix" 1 ["_law_cell", "_law_k"] zbA):DefV P w K mg base "_law_draws" 2 ["_law_script", "_law_many"] zbr:=by
 refine DefV.of h zbg (fun _ _ _ _ _ _ us hl=>us2 us hl (fun _ _=>rfl)) (fun f cdv A outer s H E hr=>?_)
 exact (zae (zao (i:=2) zbg.nd rfl (Or.inl rfl) (zdX (zlg true) rfl B.list PyProof.Rows.boot_list (zaa (vv 0) zag)))
  (zae (zbX (zaE (o_eq hr.units) (vv 2) (zbF false zag) (zam _))
   (zah (zao (i:=2) zbg.nd rfl (Or.inl rfl) (zbF true (zaa zac zag))))
   zaM)
  (zae (zao (i:=3) zbg.nd rfl (Or.inl rfl) (zbD (o_eq hr.units) (zal zdh (zas (vv 2) zac (fun _ _=>rfl)) zac) zac (zam _)))
  (zae (zhW (zal zd1 (zas (vv 2) zac (fun _ _=>rfl)) zac) (zpx (vv 2) zac))
  (zae (zao (i:=4) zbg.nd rfl (Or.inl rfl) (zdX (zlg false) rfl B.list PyProof.Rows.boot_list (zaa (vv 2) zag)))
  (zae (zao (i:=5) zbg.nd rfl (Or.inl rfl) (zbF true zag))
  (zae (zdz zai.passes rfl (zhG rfl B.range (zaa (vv 1) zag)) (zau (i:=6) zbg.nd rfl (Or.inl rfl))
   (zae (zao (i:=7) zbg.nd rfl (Or.inl rfl) (zal zdh (vv 6) (zaL zfm rfl B.len PySem.boot_len (zaa (vv 2) zag))))
   (zah (zbX (VW.vt (zfp (zez (vv 3)) (zep (zaE (o_eq hr.units) (zas (vv 2) (vv 7) (fun _ _=>rfl)) zac (zam _)))))
    (zah (zeR (zmj PySem.F.plainAttrs_list PySem.F.slot_list_append PySem.F.type_list_append zd0 ze5 (vv 5) (zaa (zaV zai zfj (hr.mono (by decide)) rfl (zaa (zaV zai zfj (hr.mono (by decide)) rfl (zaa (zal zdh (zas (vv 4) (vv 7) (fun _ _=>rfl)) zac) (zaa (zal (zbH false) (vv 6) zac) zag))) (zaa (zal (zbH false) (zal zdh (zal zmg (vv 6) (vv 6)) zac) zac) zag))) zag))))
    (zae (zeR (zmj PySem.F.plainAttrs_list PySem.F.slot_list_append PySem.F.type_list_append zd0 ze5 (vv 5) (zaa (zal zdh (zas (vv 2) (vv 7) (fun _ _=>rfl)) zac) zag)))
    (zah (zhW (zal zsN (zas (vv 2) (vv 7) (fun _ _=>rfl)) zac) (zpx (vv 2) (vv 7)))))))))
  (zah (zaI (vf 5))))))))))
theorem zcp:zaq ["_law_pouch", "_law_size", "_law_slack_here", "_law_depth", "_law_entries", "_law_k"] ["_law_pouch"] (zab zc4):=⟨rfl,rfl,rfl,by decide +kernel,rfl,by decide +kernel,by decide +kernel⟩
theorem zk5 (B:Blt mg) (h:HasFn K mg "_law_form" zc4) (zeF:DefV P w K mg base "_law_alone" 1 ["_law_pouch", "_law_k"] zcu) (zed:DefV P w K mg base "_law_beside" 1 ["_law_pouch", "_law_k"] zaJ):DefV P w K mg base "_law_form" 2 ["_law_pouch"] za9:=by
 refine DefV.of h zcp (fun _ _ _ _ _ _ us hl=>us1 us hl (fun _=>rfl)) (fun f cdv A outer s H E hr=>?_)
 exact (zae (zhW (vv 0) (zdH rfl (zaA (zau (i:=1) zcp.nd rfl (Or.inl rfl)) (zaA (zau (i:=2) zcp.nd rfl (Or.inl rfl)) (zaA (zau (i:=3) zcp.nd rfl (Or.inl rfl)) (zaA (zau (i:=4) zcp.nd rfl (Or.inl rfl)) zcQ))))))
  (zae (zbX (VW.vt (zfp (zaE o_lt (vv 1) zac (zam _)) (zfp (zaE o_lt (vv 2) zac (zam _)) (zfp (zaE o_lt (vv 3) zac (zam _)) (zep (zaE (o_ne hr.units) (zbD (o_eq hr.units) (vv 4) (zbF false zag) (zam _)) (zbD (o_eq hr.units) (vv 1) zac (zam _)) (zam _)))))))
   (zah (zaI zac))
   zaM)
  (zae (zdz zai.passes rfl (zhG rfl B.range (zaa (zaL zfm rfl B.len PySem.boot_len (zaa (vv 4) zag)) zag)) (zau (i:=5) zcp.nd rfl (Or.inl rfl))
   (zah (zbX (VW.vt (zfp (zfR (zez (zaV zai zeF (hr.mono (by decide)) rfl (zaa (vv 0) (zaa (vv 5) zag))))) (zep (VW.vt (zgO (zaE o_gt (vv 5) zac (zam _)) (zeN (zfR (zez (zaV zai zed (hr.mono (by decide)) rfl (zaa (vv 0) (zaa (vv 5) zag)))))))))))
    (zah (zaI (vv 5)))
    zaM)))
  (zah (zaI zhx)))))
theorem zbU:zaq ["_law_draws_here", "_law_numbers", "_law_ends", "_law_entries", "_law_place", "_law_cell"] ["_law_draws_here", "_law_numbers", "_law_ends"] (zab zcv):=⟨rfl,rfl,rfl,by decide +kernel,rfl,by decide +kernel,by decide +kernel⟩
theorem zjI (B:Blt mg) (h:HasFn K mg "_law_drawn" zcv) (zeC:DefV P w K mg base "_law_entry" 1 ["_law_numbers", "_law_place", "_law_cell"] zdP):DefV P w K mg base "_law_drawn" 2 ["_law_draws_here", "_law_numbers", "_law_ends"] zc9:=by
 refine DefV.of h zbU (fun _ _ _ _ _ _ us hl=>us3 us hl (fun _ _ _=>rfl)) (fun f cdv A outer s H E hr=>?_)
 exact (zae (zao (i:=3) zbU.nd rfl (Or.inl rfl) (zbF true zag))
  (zae (zao (i:=4) zbU.nd rfl (Or.inl rfl) zac)
  (zae (zdz zai.passes rfl (zfT (vv 0)) (zau (i:=5) zbU.nd rfl (Or.inl rfl))
   (zae (zao (i:=4) zbU.nd rfl (Or.inl rfl) (zal (zbH false) (zal (zbH false) (vv 4) zac) (zas (zbF false (zaa zac (zaa zac (zaa zac (zaa (zal zdh (vv 5) zac) zag))))) (zal zdh (zal zd1 (vv 5) zac) zac) (fun _ _=>rfl))))
   (zah (zbX (zaE o_le (vv 4) (zaL zfm rfl B.len PySem.boot_len (zaa (vv 1) zag)) (zam _))
    (zah (zeR (zmj PySem.F.plainAttrs_list PySem.F.slot_list_append PySem.F.type_list_append zd0 ze5 (vv 3) (zaa (zaV zai zeC (hr.mono (by decide)) rfl (zaa (vv 1) (zaa (vv 4) (zaa (zal zd1 (vv 5) zac) zag)))) zag))))
    zaM))))
  (zae (zbX (VW.vt (zfp (zaE (o_eq hr.units) (vv 3) (zbF false zag) (zam _)) (zep (zaE o_gt (zal zdh (vv 2) zac) zac (zam _)))))
   (zah (zao (i:=3) zbU.nd rfl (Or.inl rfl) (zal (zbH true) (zbF false (zaa (zdO (zaa (zas (vv 1) zac (fun _ _=>rfl)) (zaa zac (zaa zac zag)))) zag)) (zfX false (vv 3) (zeK zac) zno))))
   zaM)
  (zae (zbX (VW.vt (zgO (zaE o_gt (zal zdh (zal zd1 (vv 2) zac) zac) zac (zam _)) (zeN (zaE (zpA hr.units) (zdO (zaa (zas (vv 1) (zpq zac) (fun _ _=>rfl)) (zaa (zaL zfm rfl B.len PySem.boot_len (zaa (vv 1) zag)) (zaa (zaL zfm rfl B.len PySem.boot_len (zaa (vv 1) zag)) zag)))) (vv 3) rfl))))
   (zah (zeR (zmj PySem.F.plainAttrs_list PySem.F.slot_list_append PySem.F.type_list_append zd0 ze5 (vv 3) (zaa (zdO (zaa (zas (vv 1) (zpq zac) (fun _ _=>rfl)) (zaa (zaL zfm rfl B.len PySem.boot_len (zaa (vv 1) zag)) (zaa (zaL zfm rfl B.len PySem.boot_len (zaa (vv 1) zag)) zag)))) zag))))
   zaM)
  (zah (zaI (vf 3))))))))
theorem zcN:zaq ["pouch", "at", "size", "slack", "entries", "entry"] ["pouch", "at"] (zab zcx):=⟨rfl,rfl,rfl,by decide +kernel,rfl,by decide +kernel,by decide +kernel⟩
theorem zjC (B:Blt mg) (h:HasFn K mg "good_entry" zcx) (zeE:DefV P w K mg base "good_alone" 1 ["entry", "slack"] zcs) (zd3:DefV P w K mg base "good_beside" 2 ["before", "entry", "slack"] zbf) (zeh:DefV P w K mg base "stands_at" 1 ["entry", "place"] zcm):DefV P w K mg base "good_entry" 3 ["pouch", "at"] zbt:=by
 refine DefV.of h zcN (fun _ _ _ _ _ _ us hl=>us2 us hl (fun _ _=>rfl)) (fun f cdv A outer s H E hr=>?_)
 exact (zae (zao (i:=2) zcN.nd rfl (Or.inl rfl) (zas (vv 0) zac (fun _ _=>rfl)))
  (zae (zao (i:=3) zcN.nd rfl (Or.inl rfl) (zas (vv 0) zac (fun _ _=>rfl)))
  (zae (zao (i:=4) zcN.nd rfl (Or.inl rfl) (zas (vv 0) zac (fun _ _=>rfl)))
  (zae (zao (i:=5) zcN.nd rfl (Or.inl rfl) (zas (vv 4) (vv 1) (fun _ _=>rfl)))
  (zae (zbX (VW.vt (zgO (zaE (o_eq hr.units) (vv 1) zac (zam _)) (zeN (zfR (zez (zaV zai zeh (hr.mono (by decide)) rfl (zaa (vv 5) (zaa zac zag))))))))
   (zah (zaI zfs))
   zaM)
  (zae (zbX (VW.vt (zgO (zaE (o_eq hr.units) (vv 1) (zal zda (zaL zfm rfl B.len PySem.boot_len (zaa (vv 4) zag)) zac) (zam _)) (zeN (zfR (zez (zaV zai zeh (hr.mono (by decide)) rfl (zaa (vv 5) (zaa (vv 2) zag))))))))
   (zah (zaI zfs))
   zaM)
  (zae (zbX (zfR (zez (zaV zai zeE (hr.mono (by decide)) rfl (zaa (vv 5) (zaa (vv 3) zag)))))
   (zah (zaI zfs))
   zaM)
  (zah (zaI (zoo (zbD (o_eq hr.units) (vv 1) zac (zam _)) (zgJ (zaV zai zd3 (hr.mono (by decide)) rfl (zaa (zas (vv 4) (zal zda (vv 1) zac) (fun _ _=>rfl)) (zaa (vv 5) (zaa (vv 3) zag)))))))))))))))
theorem zcW:zaq ["row", "length", "at", "run", "times"] ["row"] (zab zdt):=⟨rfl,rfl,rfl,by decide +kernel,rfl,by decide +kernel,by decide +kernel⟩
theorem zmf (B:Blt mg) (h:HasFn K mg "look_row" zdt) (zhe:∃ t,mg "LONGEST" = some (.int 1000000000 t)) (O_NoRow:OwnF K mg "NoRow" "at"):DefV P w K mg base "look_row" 3 ["row"] ze7:=by
 refine DefV.of h zcW (fun _ _ _ _ _ _ us hl=>us1 us hl (fun _=>rfl)) (fun f cdv A outer s H E hr=>?_)
 exact (zae (zao (i:=1) zcW.nd rfl (Or.inl rfl) zac)
  (zae (zdz zai.passes rfl (zit rfl B.enumerate (vv 0)) (zdH rfl (zaA (zau (i:=2) zcW.nd rfl (Or.inl rfl)) (zaA (zau (i:=3) zcW.nd rfl (Or.inl rfl)) zcQ)))
   (zae (zao (i:=4) zcW.nd rfl (Or.inl rfl) (zas (vv 3) zac (fun _ _=>rfl)))
   (zae (zao (i:=1) zcW.nd rfl (Or.inl rfl) (zal (zbH false) (vv 1) (vv 4)))
   (zah (zbX (VW.vt (zfp (zaE o_lt (vv 4) zac (zam _)) (zep (zaE o_gt (vv 1) (zoC rfl zhe) (zam _)))))
    (zah (zeY (k:=0) zai rfl O_NoRow (hr.mono (by decide)) rfl (zaa (vv 2) zag)))
    zaM)))))
  (zah (zaI (vv 1)))))
theorem zbz:zaq ["places", "entries", "place", "at", "entry", "stands"] ["places", "entries"] (zab zbY):=⟨rfl,rfl,rfl,by decide +kernel,rfl,by decide +kernel,by decide +kernel⟩
theorem zjj (B:Blt mg) (h:HasFn K mg "look_places" zbY) (O_Wrong:OwnF K mg "Wrong" "at"):DefV P w K mg base "look_places" 3 ["places", "entries"] zcd:=by
 refine DefV.of h zbz (fun _ _ _ _ _ _ us hl=>us2 us hl (fun _ _=>rfl)) (fun f cdv A outer s H E hr=>?_)
 exact (zae (zao (i:=2) zbz.nd rfl (Or.inl rfl) zac)
  (zah (zdz zai.passes rfl (zit rfl B.enumerate (vv 1)) (zdH rfl (zaA (zau (i:=3) zbz.nd rfl (Or.inl rfl)) (zaA (zau (i:=4) zbz.nd rfl (Or.inl rfl)) zcQ)))
   (zae (zbX (zmz (Room.zik hr) (zas (vv 4) zac (fun _ _=>rfl)) (vv 0))
    (zah (zeY (k:=0) zai rfl O_Wrong (hr.mono (by decide)) rfl (zaa (vv 3) zag)))
    zaM)
   (zae (zao (i:=5) zbz.nd rfl (Or.inl rfl) (zns (Room.zik hr) (vv 0) (zas (vv 4) zac (fun _ _=>rfl)) (fun _ _=>rfl)))
   (zae (zao (i:=2) zbz.nd rfl (Or.inl rfl) (zaL (zr4 rfl) rfl B.max boot_max (zaa (zal (zbH false) (vv 2) zac) (zaa (zas (vv 4) zac (fun _ _=>rfl)) (zaa (zas (vv 5) zac (fun _ _=>rfl)) zag)))))
   (zah (zbX (VW.vt (zfp (zaE o_gt (vv 2) (zas (vv 4) zac (fun _ _=>rfl)) (zam _)) (zep (zaE o_gt (vv 2) (zas (vv 5) zac (fun _ _=>rfl)) (zam _)))))
    (zah (zeY (k:=0) zai rfl O_Wrong (hr.mono (by decide)) rfl (zaa (vv 3) zag)))
    zaM))))))))
theorem zp9:zaq ["pouch", "number"] ["pouch", "number"] (zab zgA):=⟨rfl,rfl,rfl,by decide +kernel,rfl,by decide +kernel,by decide +kernel⟩
theorem zrY (B:Blt mg) (h:HasFn K mg "upto" zgA) (zbB:DefV P w K mg base "bounds_ahead" 1 ["pouch", "at"] zaP) (za5:HasFn K mg "first_where" zaR) (T_upto:TabF K mg base "upto"):DefV P w K mg base "upto" 3 ["pouch", "number"] zeP:=by
 refine DefV.ofT h T_upto zp9 (fun _ _ _ _ _ _ us hl=>us2 us hl (fun _ _=>rfl)) (fun c Pt tb th f A outer s H E hr=>?_)
 exact (zah (zaI (zaV zai zbB (hr.mono (by decide)) rfl (zaa (vv 0) (zaa (znQ (k:=0) (js:=[1]) (cs:=["number"]) (y := "entry") (fb:=zcr) (bfw:=zbu) (kf:=1) tb th T_upto.blt rfl rfl rfl (FwOk.of (zab zgA) ["pouch", "number"] rfl rfl (by decide +kernel)) za5 rfl za8 (fun _ _ _ _ _ _ us hl=>us2 us hl (fun _ _=>rfl)) (fun S0=>zdV B S0 (fun _ _ _ _ _=>rfl) (fun f cd cl A outer s H hr=>(zbD o_gt (zas (vv 0) zac (fun _ _=>rfl)) (vv 1) (zam _)))) (fun lf ns a Ω r h=>M.zc7 lf _ a Ω r h) (hr.mono (by decide)) rfl (zas (vv 0) zac (fun _ _=>rfl))) zag)))))
theorem zow:zaq ["pouch", "number"] ["pouch", "number"] (zab zeH):=⟨rfl,rfl,rfl,by decide +kernel,rfl,by decide +kernel,by decide +kernel⟩
theorem zrf (B:Blt mg) (h:HasFn K mg "below" zeH) (zbB:DefV P w K mg base "bounds_ahead" 1 ["pouch", "at"] zaP) (za5:HasFn K mg "first_where" zaR) (T_below:TabF K mg base "below"):DefV P w K mg base "below" 3 ["pouch", "number"] zdW:=by
 refine DefV.ofT h T_below zow (fun _ _ _ _ _ _ us hl=>us2 us hl (fun _ _=>rfl)) (fun c Pt tb th f A outer s H E hr=>?_)
 exact (zah (zaI (zaV zai zbB (hr.mono (by decide)) rfl (zaa (vv 0) (zaa (znQ (k:=1) (js:=[1]) (cs:=["number"]) (y := "entry") (fb:=zb3) (bfw:=zbu) (kf:=1) tb th T_below.blt rfl rfl rfl (FwOk.of (zab zeH) ["pouch", "number"] rfl rfl (by decide +kernel)) za5 rfl za8 (fun _ _ _ _ _ _ us hl=>us2 us hl (fun _ _=>rfl)) (fun S0=>zdV B S0 (fun _ _ _ _ _=>rfl) (fun f cd cl A outer s H hr=>(zbD o_ge (zas (vv 0) zac (fun _ _=>rfl)) (vv 1) (zam _)))) (fun lf ns a Ω r h=>M.zc7 lf _ a Ω r h) (hr.mono (by decide)) rfl (zas (vv 0) zac (fun _ _=>rfl))) zag)))))
theorem zd7:zaq ["pouch", "place", "entries", "farthest"] ["pouch", "place"] (zab zbs):=⟨rfl,rfl,rfl,by decide +kernel,rfl,by decide +kernel,by decide +kernel⟩
theorem zjx (B:Blt mg) (h:HasFn K mg "so_manieth" zbs) (za5:HasFn K mg "first_where" zaR) (O_NoPlace:OwnC K mg "NoPlace") (T_so_manieth:TabF K mg base "so_manieth"):DefV P w K mg base "so_manieth" 3 ["pouch", "place"] zbJ:=by
 refine DefV.ofT h T_so_manieth zd7 (fun _ _ _ _ _ _ us hl=>us2 us hl (fun _ _=>rfl)) (fun c Pt tb th f A outer s H E hr=>?_)
 exact (zae (zbX (VW.vt (zfp (zaE o_lt (vv 1) zac (zam _)) (zep (zaE o_gt (vv 1) (zas (vv 0) zac (fun _ _=>rfl)) (zam _)))))
   (zah (zjJ zai rfl O_NoPlace rfl (zaa zfU zag)))
   zaM)
  (zae (zao (i:=2) zd7.nd rfl (Or.inl rfl) (zas (vv 0) zac (fun _ _=>rfl)))
  (zae (zao (i:=3) zd7.nd rfl (Or.inr rfl) (zal (zbH false) (vv 1) (zal zd1 (zal (zbH false) (zas (vv 0) zac (fun _ _=>rfl)) zac) zac)))
  (zah (zaI (zas (zas (vv 2) (zal zda (znQ (k:=2) (js:=[3]) (cs:=["farthest"]) (y := "entry") (fb:=za1) (bfw:=zbu) (kf:=1) tb th T_so_manieth.blt rfl rfl rfl (FwOk.of (zab zbs) ["pouch", "place", "entries", "farthest"] rfl rfl (by decide +kernel)) za5 rfl za8 (fun _ _ _ _ _ _ us hl=>us2 us hl (fun _ _=>rfl)) (fun S0=>zdV B S0 (fun _ _ _ _ _=>rfl) (fun f cd cl A outer s H hr=>(zbD o_gt (zas (vv 0) zac (fun _ _=>rfl)) (vv 1) (zam _)))) (fun lf ns a Ω r h=>M.zc7 lf _ a Ω r h) (hr.mono (by decide)) rfl (vv 2)) zac) (fun _ _=>rfl)) zac (fun _ _=>rfl)))))))
theorem zfH:zaq ["pouch", "at"] ["pouch"] (zab zcq):=⟨rfl,rfl,rfl,by decide +kernel,rfl,by decide +kernel,by decide +kernel⟩
theorem zjU (B:Blt mg) (h:HasFn K mg "look_pouch" zcq) (ze1:DefV P w K mg base "good_entry" 3 ["pouch", "at"] zbt) (zfB:DefV P w K mg base "good_head" 1 ["pouch"] zbj) (O_NoPouch:OwnF K mg "NoPouch" "at"):DefV P w K mg base "look_pouch" 4 ["pouch"] zbP:=by
 refine DefV.of h zfH (fun _ _ _ _ _ _ us hl=>us1 us hl (fun _=>rfl)) (fun f cdv A outer s H E hr=>?_)
 exact (zae (zbX (zfR (zez (zaV zai zfB (hr.mono (by decide)) rfl (zaa (vv 0) zag))))
   (zah (zeY (k:=0) zai rfl O_NoPouch (hr.mono (by decide)) rfl (zaa zac zag)))
   zaM)
  (zae (zdz zai.passes rfl (zhG rfl B.range (zaa (zaL zfm rfl B.len PySem.boot_len (zaa (zas (vv 0) zac (fun _ _=>rfl)) zag)) zag)) (zau (i:=1) zfH.nd rfl (Or.inl rfl))
   (zah (zbX (zfR (zez (zaV zai ze1 (hr.mono (by decide)) rfl (zaa (vv 0) (zaa (vv 1) zag)))))
    (zah (zeY (k:=0) zai rfl O_NoPouch (hr.mono (by decide)) rfl (zaa (vv 1) zag)))
    zaM)))
  (zah (zaI zfs))))
theorem zb1:zaq ["_law_row", "_law_numbers", "_law_pouch", "_law_number", "_law_half", "_law_place", "_law_near"] ["_law_row", "_law_numbers", "_law_pouch"] (zab zct):=⟨rfl,rfl,rfl,by decide +kernel,rfl,by decide +kernel,by decide +kernel⟩
theorem zjT (B:Blt mg) (h:HasFn K mg "_law_tells" zct) (zeU:DefV P w K mg base "_law_below" 1 ["_law_row", "_law_number"] zdN) (zfv:DefV P w K mg base "_law_upto" 1 ["_law_row", "_law_number"] zea) (zdm:DefV P w K mg base "_law_within" 1 ["_law_low_high", "_law_count", "_law_slack_here"] zb5) (zkM:DefV P w K mg base "below" 3 ["pouch", "number"] zdW) (zer:DefV P w K mg base "so_manieth" 3 ["pouch", "place"] zbJ) (znY:DefV P w K mg base "upto" 3 ["pouch", "number"] zeP):DefV P w K mg base "_law_tells" 4 ["_law_row", "_law_numbers", "_law_pouch"] zdc:=by
 refine DefV.of h zb1 (fun _ _ _ _ _ _ us hl=>us3 us hl (fun _ _ _=>rfl)) (fun f cdv A outer s H E hr=>?_)
 exact (zae (zdz zai.passes rfl (zhz rfl B.range (zaa (zal zda zac zac) (zaa zac zag))) (zau (i:=3) zb1.nd rfl (Or.inl rfl))
   (zae (zbX (zfR (zez (zaV zai zdm (hr.mono (by decide)) rfl (zaa (zaV zai znY (hr.mono (by decide)) rfl (zaa (vv 2) (zaa (vv 3) zag))) (zaa (zaV zai zfv (hr.mono (by decide)) rfl (zaa (vv 0) (zaa (vv 3) zag))) (zaa (zas (vv 2) zac (fun _ _=>rfl)) zag))))))
    (zah (zaI zfs))
    zaM)
   (zah (zbX (zfR (zez (zaV zai zdm (hr.mono (by decide)) rfl (zaa (zaV zai zkM (hr.mono (by decide)) rfl (zaa (vv 2) (zaa (vv 3) zag))) (zaa (zaV zai zeU (hr.mono (by decide)) rfl (zaa (vv 0) (zaa (vv 3) zag))) (zaa (zas (vv 2) zac (fun _ _=>rfl)) zag))))))
    (zah (zaI zfs))
    zaM))))
  (zae (zao (i:=4) zb1.nd rfl (Or.inl rfl) (zal zd1 (zal (zbH false) (zas (vv 2) zac (fun _ _=>rfl)) zac) zac))
  (zae (zdz zai.passes rfl (zhz rfl B.range (zaa zac (zaa (zal (zbH false) (zaL zfm rfl B.len PySem.boot_len (zaa (vv 1) zag)) zac) zag))) (zau (i:=5) zb1.nd rfl (Or.inl rfl))
   (zae (zao (i:=3) zb1.nd rfl (Or.inl rfl) (zaV zai zer (hr.mono (by decide)) rfl (zaa (vv 2) (zaa (vv 5) zag))))
   (zae (zao (i:=6) zb1.nd rfl (Or.inl rfl) (zfX false (vv 1) (zeK (zaL (zju rfl) rfl B.max boot_max (zaa zac (zaa (zal zda (zal zda (vv 5) (vv 4)) zac) zag)))) (zeK (zal (zbH false) (vv 5) (vv 4)))))
   (zah (zbX (zaE (zpA hr.units) (vv 3) (vv 6) rfl)
    (zah (zaI zfs))
    zaM)))))
  (zah (zaI zfs)))))
theorem zlK:zaq ["row", "pouch", "length"] ["row", "pouch"] (zab zf8):=⟨rfl,rfl,rfl,by decide +kernel,rfl,by decide +kernel,by decide +kernel⟩
theorem zru (B:Blt mg) (h:HasFn K mg "judge" zf8) (zd9:DefV P w K mg base "look_places" 3 ["places", "entries"] zcd) (zeZ:DefV P w K mg base "look_pouch" 4 ["pouch"] zbP) (zf6:DefV P w K mg base "look_row" 3 ["row"] ze7) (zfy:DefV P w K mg base "places_of" 2 ["row"] zee) (O_NoSize:OwnC K mg "NoSize"):DefV P w K mg base "judge" 5 ["row", "pouch"] zdu:=by
 refine DefV.of h zlK (fun _ _ _ _ _ _ us hl=>us2 us hl (fun _ _=>rfl)) (fun f cdv A outer s H E hr=>?_)
 exact (zae (zao (i:=2) zlK.nd rfl (Or.inl rfl) (zaV zai zf6 (hr.mono (by decide)) rfl (zaa (vv 0) zag)))
  (zae (zeR (zaV zai zeZ (hr.mono (by decide)) rfl (zaa (vv 1) zag)))
  (zae (zbX (zaE (o_ne hr.units) (zas (vv 1) zac (fun _ _=>rfl)) (vv 2) (zam _))
   (zah (zjJ zai rfl O_NoSize rfl (zaa zfU zag)))
   zaM)
  (zae (zeR (zaV zai zd9 (hr.mono (by decide)) rfl (zaa (zaV zai zfy (hr.mono (by decide)) rfl (zaa (vv 0) zag)) (zaa (zas (vv 1) zac (fun _ _=>rfl)) zag))))
  (zah (zaI zfs))))))
theorem zba:zaq ["_law_row", "_law_pouch", "_law_told", "_law_found", "error"] ["_law_row", "_law_pouch"] (zab zbV):=⟨rfl,rfl,rfl,by decide +kernel,rfl,by decide +kernel,by decide +kernel⟩
theorem ziO (B:Blt mg) (h:HasFn K mg "_law_judged" zbV) (C_NoPouch:ClsN K mg "NoPouch") (C_Wrong:ClsN K mg "Wrong") (zk1:DefV P w K mg base "judge" 5 ["row", "pouch"] zdu) (F_at:XFld K ["NoPouch", "NoRow", "Wrong"] "at") (T_all:XTab K ["NoPouch", "NoSize", "NoPlace", "NoRow", "Wrong"] ["RankError", "NoRow", "NoPlace", "NoPouch", "NoSize", "Wrong"]):DefV P w K mg base "_law_judged" 6 ["_law_row", "_law_pouch"] zcJ:=by
 refine DefV.ofN (DefN.of0 h zba (fun _ _ _ _ _ _ us hl=>us2 us hl (fun _ _=>rfl)) (fun f cdv A outer s H E hr=>?_))
 exact (zfF (VS.v0 (zao (i:=2) zba.nd rfl (Or.inl rfl) zhx))
  (zfF (VS.v0 (zao (i:=3) zba.nd rfl (Or.inl rfl) zhx))
  (zfF (zrg ziT rfl (fun W=>(VSs.v0 (zah (zao (i:=3) zba.nd rfl (Or.inl rfl) (zaV zmB zk1 (hr.mono (by decide)) rfl (zaa (zdX (zlg false) rfl B.list PyProof.Rows.boot_list (zaa (vv 0) zag)) (zaa (zal (zbH false) (zfX false (vv 1) zno (zeK zac)) (zdO (zaa (zdX (zlg false) rfl B.list PyProof.Rows.boot_list (zaa (zas (vv 1) zac (fun _ _=>rfl)) zag)) zag))) zag)))))))
   (zn8 (i:=4) (rs:=["NoPouch", "NoSize", "NoPlace", "NoRow", "Wrong"]) (ns:=["RankError", "NoRow", "NoPlace", "NoPouch", "NoSize", "Wrong"]) ziT C_NoPouch rfl T_all zba.nd rfl rfl (fun p oe d e he=>(zah (zao (i:=2) zba.nd rfl (Or.inl rfl) (zbF false (zaa zfU (zaa (zpH (vv 4) (List.mem_append_right _ (List.mem_singleton_self _)) he F_at) zag))))))
   (zn8 (i:=4) (rs:=["NoPouch", "NoSize", "NoPlace", "NoRow", "Wrong"]) (ns:=["RankError", "NoRow", "NoPlace", "NoPouch", "NoSize", "Wrong"]) ziT C_Wrong rfl T_all zba.nd rfl rfl (fun p oe d e he=>(zah (zao (i:=2) zba.nd rfl (Or.inl rfl) (zbF false (zaa zfU (zaa (zpH (vv 4) (List.mem_append_right _ (List.mem_singleton_self _)) he F_at) zag))))))
   zr9)))
  (zfF (VS.v0 (zbX (zaE ztV (vv 2) zhx (zam _))
   (zah (zaI (zbF false (zaa zfU (zaa (zdX zpB rfl B.int PyProof.Rows.boot_int (zaa (zbD zou (vv 3) zfs (zam _)) zag)) zag)))))
   zaM))
  (VSs.v0 (zah (zaI (vv 2))))))))
theorem zeS:zaq ["_law_script", "_law_draws_here", "_law_row", "_law_step", "_law_numbers", "_law_entries", "_law_slack_here", "_law_pouch", "_law_due"] ["_law_script"] (zab ziR):=⟨rfl,rfl,rfl,by decide +kernel,rfl,by decide +kernel,by decide +kernel⟩
theorem ztr {f:Addr} {fd:FuncData} (B:Blt mg) (F:Fun K "law" "law" ziR f fd) (zf7:DefV P w K mg base "_law_all" 1 ["_law_row"] ze4) (zeO:DefV P w K mg base "_law_drawn" 2 ["_law_draws_here", "_law_numbers", "_law_ends"] zc9) (zeV:DefV P w K mg base "_law_draws" 2 ["_law_script", "_law_many"] zbr) (zef:DefV P w K mg base "_law_form" 2 ["_law_pouch"] za9) (zec:DefV P w K mg base "_law_judged" 6 ["_law_row", "_law_pouch"] zcJ) (zex:DefV P w K mg base "_law_slack" 1 ["_law_entries"] zde) (zeW:DefV P w K mg base "_law_tells" 4 ["_law_row", "_law_numbers", "_law_pouch"] zdc) (zdK:DefV P w K mg base "_law_wrong" 1 ["_law_numbers", "_law_entries"] zbc):FnOk P w K mg base (CXE P w) 7 f fd ["_law_script"] (spV K 1 zjB):=by
 refine zpJ F zeS (fun f cdv A outer s H E hr=>?_)
 exact (zae (zao (i:=1) zeS.nd rfl (Or.inl rfl) (zaV zai zeV (hr.mono (by decide)) rfl (zaa (vv 0) (zaa zac zag))))
  (zae (zao (i:=2) zeS.nd rfl (Or.inl rfl) (zbF true zag))
  (zae (zdz zai.passes rfl (zfT (zfX false (vv 1) (zeK zac) (zeK (zal (zbH false) zac (zal zdh (zas (vv 1) zac (fun _ _=>rfl)) zac))))) (zau (i:=3) zeS.nd rfl (Or.inl rfl))
   (zah (zeR (zmj PySem.F.plainAttrs_list PySem.F.slot_list_append PySem.F.type_list_append zd0 ze5 (vv 2) (zaa (zdO (zaa (zal zdh (vv 3) zac) (zaa (zal (zbH false) zac (zal zdh (zal zd1 (vv 3) zac) zac)) zag))) zag)))))
  (zqe 2 (zae (zao (i:=4) zeS.nd rfl (Or.inl rfl) (zaV zai zf7 (hr.mono (by decide)) rfl (zaa (vv 2) zag)))
  (zae (zao (i:=5) zeS.nd rfl (Or.inl rfl) (zaV zai zeO (hr.mono (by decide)) rfl (zaa (zfX false (vv 1) (zeK zac) (zeK (zal (zbH false) zac (zal zdh (zal zd1 (zas (vv 1) zac (fun _ _=>rfl)) zac) zac)))) (zaa (vv 4) (zaa (zas (vv 1) zac (fun _ _=>rfl)) zag)))))
  (zae (zao (i:=6) zeS.nd rfl (Or.inl rfl) (zaL (zju rfl) rfl B.max boot_max (zaa zac (zaa (zal zda (zaV zai zex (hr.mono (by decide)) rfl (zaa (vv 5) zag)) (zdX zpB rfl B.int PyProof.Rows.boot_int (zaa (zbD (o_eq hr.units) (zal zdh (zal zd1 (zas (vv 1) zac (fun _ _=>rfl)) zac) zac) zac (zam _)) zag))) zag))))
  (zae (zao (i:=7) zeS.nd rfl (Or.inl rfl) (zdO (zaa (zaL zfm rfl B.len PySem.boot_len (zaa (vv 4) zag)) (zaa (vv 6) (zaa (zal zdh (zal zd1 (zas (vv 1) zac (fun _ _=>rfl)) zac) zac) (zaa (vv 5) zag))))))
  (zae (zao (i:=8) zeS.nd rfl (Or.inl rfl) (zbF false (zaa zfU (zaa zac zag))))
  (zae (zbX (zaE zpr (zaV zai zef (hr.mono (by decide)) rfl (zaa (vv 7) zag)) zhx (zam _))
   (zah (zao (i:=8) zeS.nd rfl (Or.inl rfl) (zbF false (zaa zfU (zaa (zaV zai zef (hr.mono (by decide)) rfl (zaa (vv 7) zag)) zag)))))
   (zah (zbX (zaE zpr (zaV zai zdK (hr.mono (by decide)) rfl (zaa (vv 4) (zaa (vv 5) zag))) zhx (zam _))
    (zah (zao (i:=8) zeS.nd rfl (Or.inl rfl) (zbF false (zaa zfU (zaa (zaV zai zdK (hr.mono (by decide)) rfl (zaa (vv 4) (zaa (vv 5) zag))) zag)))))
    zaM)))
  (zae (zbX (zaE (o_ne hr.units) (zaV zai zec (hr.mono (by decide)) rfl (zaa (vv 2) (zaa (vv 7) zag))) (vv 8) (zam _))
   (zah (zaI zfs))
   zaM)
  (zah (zaI (zoo (zbD (o_ne hr.units) (zas (vv 8) zac (fun _ _=>rfl)) zfU (zam _)) (zgJ (zaV zai zeW (hr.mono (by decide)) rfl (zaa (vv 2) (zaa (vv 4) (zaa (vv 7) zag)))))))))))))))))))
end
theorem all_mk {l:PySem.W.OpenLaw} {w:World} {K:PySem.W.Frag} {h:Heap} {mg:Str→Option Value} {fa f0 f1 f2 f3 f4 f5 f6 f7 f8 f9 f10 f11 f12 f13 f14 f15 f16 f17 f18 f19 f20 f21 f22 f23 f24 f25 f26 f27 f28 f29 f30 f31 f32:Addr} (X:K.In h) (G:h.Ns mainGlobals mg) (hfa:mg "law" = some (.ref fa))
  {tc_upto tp_upto tc_below tp_below tc_so_manieth tp_so_manieth:Addr} {odc_upto odc_below odc_so_manieth:Option Addr} {slc_upto slc_below slc_so_manieth:Array (Option Value)} {vs_upto vs_below vs_so_manieth:Array Value}
  {od0 an0 od1 an1 od2 an2 od3 an3 od4 an4 od5 an5 od6 an6 od7 an7 od8 an8 od9 an9 od10 an10 od11 an11 od12 an12 od13 an13 od14 an14 od15 an15 od16 an16 od17 an17 od18 an18 od19 an19 od20 an20 od21 an21 od22 an22 od23 an23 od24 an24 od25 an25 od26 an26 od27 an27 od28 an28 od29 an29 od30 an30 od31 an31 od32 an32:Option Addr} {sl0 sl1 sl2 sl3 sl4 sl5 sl6 sl7 sl8 sl9 sl10 sl11 sl12 sl13 sl14 sl15 sl16 sl17 sl18 sl19 sl20 sl21 sl22 sl23 sl24 sl25 sl26 sl27 sl28 sl29 sl30 sl31 sl32:Array (Option Value)} {oc0 kV0 dc0 pm0 cd0 ct0 oc1 kV1 dc1 pm1 cd1 ct1 oc2 kV2 dc2 pm2 cd2 ct2 oc3 kV3 dc3 pm3 cd3 ct3 oc4 kV4 dc4 pm4 cd4 ct4 oc5 kV5 dc5 pm5 cd5 ct5 oc6 kV6 dc6 pm6 cd6 ct6 oc7 kV7 dc7 pm7 cd7 ct7 oc8 kV8 dc8 pm8 cd8 ct8 oc9 kV9 dc9 pm9 cd9 ct9 oc10 kV10 dc10 pm10 cd10 ct10 oc11 kV11 dc11 pm11 cd11 ct11 oc12 kV12 dc12 pm12 cd12 ct12 oc13 kV13 dc13 pm13 ct13 oc14 kV14 dc14 pm14 ct14 oc15 kV15 dc15 pm15 ct15 oc16 kV16 dc16 pm16 cd16 ct16 oc17 kV17 dc17 pm17 cd17 ct17 oc18 kV18 dc18 pm18 cd18 ct18 oc19 kV19 dc19 pm19 cd19 ct19 oc20 kV20 dc20 pm20 cd20 ct20 oc21 kV21 dc21 pm21 cd21 ct21 oc22 kV22 dc22 pm22 cd22 ct22 oc23 kV23 dc23 pm23 cd23 ct23 oc24 kV24 dc24 pm24 cd24 ct24 oc25 kV25 dc25 pm25 cd25 ct25 oc26 kV26 dc26 pm26 cd26 ct26 oc27 kV27 dc27 pm27 cd27 ct27 oc28 kV28 dc28 pm28 cd28 ct28 oc29 kV29 dc29 pm29 cd29 ct29 oc30 kV30 dc30 pm30 cd30 ct30 oc31 kV31 dc31 pm31 cd31 ct31 oc32 kV32 dc32 pm32 cd32 ct32:Value}
  (a0:PySem.W.nsIn K mainGlobals "look_pouch" = some (some (.ref f0))) (l0:K.lookup f0=some ⟨oc0,od0, .func (PySem.W.fnOf "look_pouch" "look_pouch" (zan zcq) (zaj zcq) (zab zcq) .none kV0 dc0 pm0 an0 cd0 ct0),sl0⟩) (c0:PySem.W.codeIn K cd0 "look_pouch" = true) (k0:PySem.W.keepIn K (.ref f0)=true)
  (a1:PySem.W.nsIn K mainGlobals "good_head" = some (some (.ref f1))) (l1:K.lookup f1=some ⟨oc1,od1, .func (PySem.W.fnOf "good_head" "good_head" (zan zcY) (zaj zcY) (zab zcY) .none kV1 dc1 pm1 an1 cd1 ct1),sl1⟩) (c1:PySem.W.codeIn K cd1 "good_head" = true) (k1:PySem.W.keepIn K (.ref f1)=true)
  (a2:PySem.W.nsIn K mainGlobals "good_entry" = some (some (.ref f2))) (l2:K.lookup f2=some ⟨oc2,od2, .func (PySem.W.fnOf "good_entry" "good_entry" (zan zcx) (zaj zcx) (zab zcx) .none kV2 dc2 pm2 an2 cd2 ct2),sl2⟩) (c2:PySem.W.codeIn K cd2 "good_entry" = true) (k2:PySem.W.keepIn K (.ref f2)=true)
  (a3:PySem.W.nsIn K mainGlobals "stands_at" = some (some (.ref f3))) (l3:K.lookup f3=some ⟨oc3,od3, .func (PySem.W.fnOf "stands_at" "stands_at" (zan zc3) (zaj zc3) (zab zc3) .none kV3 dc3 pm3 an3 cd3 ct3),sl3⟩) (c3:PySem.W.codeIn K cd3 "stands_at" = true) (k3:PySem.W.keepIn K (.ref f3)=true)
  (a4:PySem.W.nsIn K mainGlobals "good_alone" = some (some (.ref f4))) (l4:K.lookup f4=some ⟨oc4,od4, .func (PySem.W.fnOf "good_alone" "good_alone" (zan zco) (zaj zco) (zab zco) .none kV4 dc4 pm4 an4 cd4 ct4),sl4⟩) (c4:PySem.W.codeIn K cd4 "good_alone" = true) (k4:PySem.W.keepIn K (.ref f4)=true)
  (a5:PySem.W.nsIn K mainGlobals "good_beside" = some (some (.ref f5))) (l5:K.lookup f5=some ⟨oc5,od5, .func (PySem.W.fnOf "good_beside" "good_beside" (zan zbW) (zaj zbW) (zab zbW) .none kV5 dc5 pm5 an5 cd5 ct5),sl5⟩) (c5:PySem.W.codeIn K cd5 "good_beside" = true) (k5:PySem.W.keepIn K (.ref f5)=true)
  (a6:PySem.W.nsIn K mainGlobals "near_enough" = some (some (.ref f6))) (l6:K.lookup f6=some ⟨oc6,od6, .func (PySem.W.fnOf "near_enough" "near_enough" (zan zbZ) (zaj zbZ) (zab zbZ) .none kV6 dc6 pm6 an6 cd6 ct6),sl6⟩) (c6:PySem.W.codeIn K cd6 "near_enough" = true) (k6:PySem.W.keepIn K (.ref f6)=true)
  (a7:PySem.W.nsIn K mainGlobals "look_row" = some (some (.ref f7))) (l7:K.lookup f7=some ⟨oc7,od7, .func (PySem.W.fnOf "look_row" "look_row" (zan zdt) (zaj zdt) (zab zdt) .none kV7 dc7 pm7 an7 cd7 ct7),sl7⟩) (c7:PySem.W.codeIn K cd7 "look_row" = true) (k7:PySem.W.keepIn K (.ref f7)=true)
  (a8:PySem.W.nsIn K mainGlobals "packed" = some (some (.ref f8))) (l8:K.lookup f8=some ⟨oc8,od8, .func (PySem.W.fnOf "packed" "packed" (zan zd4) (zaj zd4) (zab zd4) .none kV8 dc8 pm8 an8 cd8 ct8),sl8⟩) (c8:PySem.W.codeIn K cd8 "packed" = true) (k8:PySem.W.keepIn K (.ref f8)=true)
  (a9:PySem.W.nsIn K mainGlobals "places_of" = some (some (.ref f9))) (l9:K.lookup f9=some ⟨oc9,od9, .func (PySem.W.fnOf "places_of" "places_of" (zan zcV) (zaj zcV) (zab zcV) .none kV9 dc9 pm9 an9 cd9 ct9),sl9⟩) (c9:PySem.W.codeIn K cd9 "places_of" = true) (k9:PySem.W.keepIn K (.ref f9)=true)
  (a10:PySem.W.nsIn K mainGlobals "judge" = some (some (.ref f10))) (l10:K.lookup f10=some ⟨oc10,od10, .func (PySem.W.fnOf "judge" "judge" (zan zf8) (zaj zf8) (zab zf8) .none kV10 dc10 pm10 an10 cd10 ct10),sl10⟩) (c10:PySem.W.codeIn K cd10 "judge" = true) (k10:PySem.W.keepIn K (.ref f10)=true)
  (a11:PySem.W.nsIn K mainGlobals "look_places" = some (some (.ref f11))) (l11:K.lookup f11=some ⟨oc11,od11, .func (PySem.W.fnOf "look_places" "look_places" (zan zbY) (zaj zbY) (zab zbY) .none kV11 dc11 pm11 an11 cd11 ct11),sl11⟩) (c11:PySem.W.codeIn K cd11 "look_places" = true) (k11:PySem.W.keepIn K (.ref f11)=true)
  (a12:PySem.W.nsIn K mainGlobals "bounds_ahead" = some (some (.ref f12))) (l12:K.lookup f12=some ⟨oc12,od12, .func (PySem.W.fnOf "bounds_ahead" "bounds_ahead" (zan zbC) (zaj zbC) (zab zbC) .none kV12 dc12 pm12 an12 cd12 ct12),sl12⟩) (c12:PySem.W.codeIn K cd12 "bounds_ahead" = true) (k12:PySem.W.keepIn K (.ref f12)=true)
  (a13:PySem.W.nsIn K mainGlobals "upto" = some (some (.ref f13))) (l13:K.lookup f13=some ⟨oc13,od13, .func (PySem.W.fnOf "upto" "upto" (zan zgA) (zaj zgA) (zab zgA) .none kV13 dc13 pm13 an13 (.ref tc_upto) ct13),sl13⟩) (c13:PySem.W.codeIn K (.ref tc_upto) "upto" = true) (k13:PySem.W.keepIn K (.ref f13)=true)
  (a14:PySem.W.nsIn K mainGlobals "below" = some (some (.ref f14))) (l14:K.lookup f14=some ⟨oc14,od14, .func (PySem.W.fnOf "below" "below" (zan zeH) (zaj zeH) (zab zeH) .none kV14 dc14 pm14 an14 (.ref tc_below) ct14),sl14⟩) (c14:PySem.W.codeIn K (.ref tc_below) "below" = true) (k14:PySem.W.keepIn K (.ref f14)=true)
  (a15:PySem.W.nsIn K mainGlobals "so_manieth" = some (some (.ref f15))) (l15:K.lookup f15=some ⟨oc15,od15, .func (PySem.W.fnOf "so_manieth" "so_manieth" (zan zbs) (zaj zbs) (zab zbs) .none kV15 dc15 pm15 an15 (.ref tc_so_manieth) ct15),sl15⟩) (c15:PySem.W.codeIn K (.ref tc_so_manieth) "so_manieth" = true) (k15:PySem.W.keepIn K (.ref f15)=true)
  (a16:PySem.W.nsIn K mainGlobals "first_where" = some (some (.ref f16))) (l16:K.lookup f16=some ⟨oc16,od16, .func (PySem.W.fnOf "first_where" "first_where" (zan zaR) (zaj zaR) (zab zaR) .none kV16 dc16 pm16 an16 cd16 ct16),sl16⟩) (c16:PySem.W.codeIn K cd16 "first_where" = true) (k16:PySem.W.keepIn K (.ref f16)=true)
  (a17:PySem.W.nsIn K mainGlobals "_law_mix" = some (some (.ref f17))) (l17:K.lookup f17=some ⟨oc17,od17, .func (PySem.W.fnOf "_law_mix" "_law_mix" (zan zdp) (zaj zdp) (zab zdp) .none kV17 dc17 pm17 an17 cd17 ct17),sl17⟩) (c17:PySem.W.codeIn K cd17 "_law_mix" = true) (k17:PySem.W.keepIn K (.ref f17)=true)
  (a18:PySem.W.nsIn K mainGlobals "_law_draws" = some (some (.ref f18))) (l18:K.lookup f18=some ⟨oc18,od18, .func (PySem.W.fnOf "_law_draws" "_law_draws" (zan zcw) (zaj zcw) (zab zcw) .none kV18 dc18 pm18 an18 cd18 ct18),sl18⟩) (c18:PySem.W.codeIn K cd18 "_law_draws" = true) (k18:PySem.W.keepIn K (.ref f18)=true)
  (a19:PySem.W.nsIn K mainGlobals "_law_upto" = some (some (.ref f19))) (l19:K.lookup f19=some ⟨oc19,od19, .func (PySem.W.fnOf "_law_upto" "_law_upto" (zan zcf) (zaj zcf) (zab zcf) .none kV19 dc19 pm19 an19 cd19 ct19),sl19⟩) (c19:PySem.W.codeIn K cd19 "_law_upto" = true) (k19:PySem.W.keepIn K (.ref f19)=true)
  (a20:PySem.W.nsIn K mainGlobals "_law_below" = some (some (.ref f20))) (l20:K.lookup f20=some ⟨oc20,od20, .func (PySem.W.fnOf "_law_below" "_law_below" (zan zbK) (zaj zbK) (zab zbK) .none kV20 dc20 pm20 an20 cd20 ct20),sl20⟩) (c20:PySem.W.codeIn K cd20 "_law_below" = true) (k20:PySem.W.keepIn K (.ref f20)=true)
  (a21:PySem.W.nsIn K mainGlobals "_law_alone" = some (some (.ref f21))) (l21:K.lookup f21=some ⟨oc21,od21, .func (PySem.W.fnOf "_law_alone" "_law_alone" (zan zcz) (zaj zcz) (zab zcz) .none kV21 dc21 pm21 an21 cd21 ct21),sl21⟩) (c21:PySem.W.codeIn K cd21 "_law_alone" = true) (k21:PySem.W.keepIn K (.ref f21)=true)
  (a22:PySem.W.nsIn K mainGlobals "_law_beside" = some (some (.ref f22))) (l22:K.lookup f22=some ⟨oc22,od22, .func (PySem.W.fnOf "_law_beside" "_law_beside" (zan zbT) (zaj zbT) (zab zbT) .none kV22 dc22 pm22 an22 cd22 ct22),sl22⟩) (c22:PySem.W.codeIn K cd22 "_law_beside" = true) (k22:PySem.W.keepIn K (.ref f22)=true)
  (a23:PySem.W.nsIn K mainGlobals "_law_form" = some (some (.ref f23))) (l23:K.lookup f23=some ⟨oc23,od23, .func (PySem.W.fnOf "_law_form" "_law_form" (zan zc4) (zaj zc4) (zab zc4) .none kV23 dc23 pm23 an23 cd23 ct23),sl23⟩) (c23:PySem.W.codeIn K cd23 "_law_form" = true) (k23:PySem.W.keepIn K (.ref f23)=true)
  (a24:PySem.W.nsIn K mainGlobals "_law_all" = some (some (.ref f24))) (l24:K.lookup f24=some ⟨oc24,od24, .func (PySem.W.fnOf "_law_all" "_law_all" (zan zdq) (zaj zdq) (zab zdq) .none kV24 dc24 pm24 an24 cd24 ct24),sl24⟩) (c24:PySem.W.codeIn K cd24 "_law_all" = true) (k24:PySem.W.keepIn K (.ref f24)=true)
  (a25:PySem.W.nsIn K mainGlobals "_law_entry" = some (some (.ref f25))) (l25:K.lookup f25=some ⟨oc25,od25, .func (PySem.W.fnOf "_law_entry" "_law_entry" (zan zcA) (zaj zcA) (zab zcA) .none kV25 dc25 pm25 an25 cd25 ct25),sl25⟩) (c25:PySem.W.codeIn K cd25 "_law_entry" = true) (k25:PySem.W.keepIn K (.ref f25)=true)
  (a26:PySem.W.nsIn K mainGlobals "_law_drawn" = some (some (.ref f26))) (l26:K.lookup f26=some ⟨oc26,od26, .func (PySem.W.fnOf "_law_drawn" "_law_drawn" (zan zcv) (zaj zcv) (zab zcv) .none kV26 dc26 pm26 an26 cd26 ct26),sl26⟩) (c26:PySem.W.codeIn K cd26 "_law_drawn" = true) (k26:PySem.W.keepIn K (.ref f26)=true)
  (a27:PySem.W.nsIn K mainGlobals "_law_slack" = some (some (.ref f27))) (l27:K.lookup f27=some ⟨oc27,od27, .func (PySem.W.fnOf "_law_slack" "_law_slack" (zan zcy) (zaj zcy) (zab zcy) .none kV27 dc27 pm27 an27 cd27 ct27),sl27⟩) (c27:PySem.W.codeIn K cd27 "_law_slack" = true) (k27:PySem.W.keepIn K (.ref f27)=true)
  (a28:PySem.W.nsIn K mainGlobals "_law_wrong" = some (some (.ref f28))) (l28:K.lookup f28=some ⟨oc28,od28, .func (PySem.W.fnOf "_law_wrong" "_law_wrong" (zan zbM) (zaj zbM) (zab zbM) .none kV28 dc28 pm28 an28 cd28 ct28),sl28⟩) (c28:PySem.W.codeIn K cd28 "_law_wrong" = true) (k28:PySem.W.keepIn K (.ref f28)=true)
  (a29:PySem.W.nsIn K mainGlobals "_law_judged" = some (some (.ref f29))) (l29:K.lookup f29=some ⟨oc29,od29, .func (PySem.W.fnOf "_law_judged" "_law_judged" (zan zbV) (zaj zbV) (zab zbV) .none kV29 dc29 pm29 an29 cd29 ct29),sl29⟩) (c29:PySem.W.codeIn K cd29 "_law_judged" = true) (k29:PySem.W.keepIn K (.ref f29)=true)
  (a30:PySem.W.nsIn K mainGlobals "_law_within" = some (some (.ref f30))) (l30:K.lookup f30=some ⟨oc30,od30, .func (PySem.W.fnOf "_law_within" "_law_within" (zan zbS) (zaj zbS) (zab zbS) .none kV30 dc30 pm30 an30 cd30 ct30),sl30⟩) (c30:PySem.W.codeIn K cd30 "_law_within" = true) (k30:PySem.W.keepIn K (.ref f30)=true)
  (a31:PySem.W.nsIn K mainGlobals "_law_tells" = some (some (.ref f31))) (l31:K.lookup f31=some ⟨oc31,od31, .func (PySem.W.fnOf "_law_tells" "_law_tells" (zan zct) (zaj zct) (zab zct) .none kV31 dc31 pm31 an31 cd31 ct31),sl31⟩) (c31:PySem.W.codeIn K cd31 "_law_tells" = true) (k31:PySem.W.keepIn K (.ref f31)=true)
  (a32:PySem.W.nsIn K mainGlobals "law" = some (some (.ref f32))) (l32:K.lookup f32=some ⟨oc32,od32, .func (PySem.W.fnOf "law" "law" (zan ziR) (zaj ziR) (zab ziR) .none kV32 dc32 pm32 an32 cd32 ct32),sl32⟩) (c32:PySem.W.codeIn K cd32 "law" = true) (k32:PySem.W.keepIn K (.ref f32)=true)
  (zfw:PySem.W.nsIn K mainGlobals "enumerate" = some none)
  (zrp:PySem.W.nsIn K mainGlobals "int" = some none)
  (zro:PySem.W.nsIn K mainGlobals "len" = some none)
  (znG:PySem.W.nsIn K mainGlobals "list" = some none)
  (zqK:PySem.W.nsIn K mainGlobals "max" = some none)
  (zqa:PySem.W.nsIn K mainGlobals "min" = some none)
  (zk0:PySem.W.nsIn K mainGlobals "range" = some none)
  (zjh:PySem.W.nsIn K mainGlobals "sorted" = some none)
  (zq4:PySem.W.nsIn K mainGlobals "sum" = some none)
  {zmT:Tok} (zhn:PySem.W.nsIn K mainGlobals "LONGEST" = some (some (.int 1000000000 zmT)))
  {zav:Addr} (zaX:PySem.W.nsIn K mainGlobals "RankError" = some (some (.ref zav)))
  {zaU:Addr} (zbq:PySem.W.nsIn K mainGlobals "NoRow" = some (some (.ref zaU)))
  {zaG:Addr} (zaQ:PySem.W.nsIn K mainGlobals "NoPlace" = some (some (.ref zaG)))
  {zax:Addr} (zaN:PySem.W.nsIn K mainGlobals "NoPouch" = some (some (.ref zax)))
  {zaO:Addr} (za7:PySem.W.nsIn K mainGlobals "NoSize" = some (some (.ref zaO)))
  {zaT:Addr} (zbp:PySem.W.nsIn K mainGlobals "Wrong" = some (some (.ref zaT)))
  {nm_RankError q_RankError N_RankError bs_RankError bm_RankError hdct_RankError sn_RankError ziV ab_RankError col_RankError dd_RankError k0_RankError k1_RankError k2_RankError k3_RankError k5_RankError} (o_RankError:K.lookup zav=some (excClassObj nm_RankError q_RankError zav N_RankError bs_RankError bm_RankError hdct_RankError sn_RankError ziV ab_RankError col_RankError dd_RankError k0_RankError k1_RankError k2_RankError k3_RankError k5_RankError "ValueError.__new__"))
  (zeI:PySem.W.findIn K (.ref zav) "__getattribute__" = some (some (.builtin "BaseException.__getattribute__"))) (zeT:PySem.W.findIn K (.ref zav) "__getattr__" = some none) (zeq:PySem.W.findIn K (.ref zav) "__class__" = some (some (.builtin "object.__class__"))) (zeG:PySem.W.subIn K (.ref zav) (.type "BaseException")=some true) (zeD:PySem.W.subIn K (.ref zav) (.type "object")=some true)
  {nm_NoRow q_NoRow N_NoRow bs_NoRow bm_NoRow hdct_NoRow sn_NoRow znx ab_NoRow col_NoRow dd_NoRow k0_NoRow k1_NoRow k2_NoRow k3_NoRow k5_NoRow} (o_NoRow:K.lookup zaU=some (excClassObj nm_NoRow q_NoRow zaU N_NoRow bs_NoRow bm_NoRow hdct_NoRow sn_NoRow znx ab_NoRow col_NoRow dd_NoRow k0_NoRow k1_NoRow k2_NoRow k3_NoRow k5_NoRow "ValueError.__new__"))
  (zgY:PySem.W.findIn K (.ref zaU) "__getattribute__" = some (some (.builtin "BaseException.__getattribute__"))) (zg8:PySem.W.findIn K (.ref zaU) "__getattr__" = some none) (ziF:PySem.W.findIn K (.ref zaU) "__class__" = some (some (.builtin "object.__class__"))) (zg5:PySem.W.subIn K (.ref zaU) (.type "BaseException")=some true) (zjr:PySem.W.subIn K (.ref zaU) (.type "object")=some true)
  {nm_NoPlace q_NoPlace N_NoPlace bs_NoPlace bm_NoPlace hdct_NoPlace sn_NoPlace zkE ab_NoPlace col_NoPlace dd_NoPlace k0_NoPlace k1_NoPlace k2_NoPlace k3_NoPlace k5_NoPlace} (o_NoPlace:K.lookup zaG=some (excClassObj nm_NoPlace q_NoPlace zaG N_NoPlace bs_NoPlace bm_NoPlace hdct_NoPlace sn_NoPlace zkE ab_NoPlace col_NoPlace dd_NoPlace k0_NoPlace k1_NoPlace k2_NoPlace k3_NoPlace k5_NoPlace "ValueError.__new__"))
  (zgh:PySem.W.findIn K (.ref zaG) "__getattribute__" = some (some (.builtin "BaseException.__getattribute__"))) (zga:PySem.W.findIn K (.ref zaG) "__getattr__" = some none) (zgn:PySem.W.findIn K (.ref zaG) "__class__" = some (some (.builtin "object.__class__"))) (zge:PySem.W.subIn K (.ref zaG) (.type "BaseException")=some true) (zf9:PySem.W.subIn K (.ref zaG) (.type "object")=some true)
  {nm_NoPouch q_NoPouch N_NoPouch bs_NoPouch bm_NoPouch hdct_NoPouch sn_NoPouch zkP ab_NoPouch col_NoPouch dd_NoPouch k0_NoPouch k1_NoPouch k2_NoPouch k3_NoPouch k5_NoPouch} (o_NoPouch:K.lookup zax=some (excClassObj nm_NoPouch q_NoPouch zax N_NoPouch bs_NoPouch bm_NoPouch hdct_NoPouch sn_NoPouch zkP ab_NoPouch col_NoPouch dd_NoPouch k0_NoPouch k1_NoPouch k2_NoPouch k3_NoPouch k5_NoPouch "ValueError.__new__"))
  (zfl:PySem.W.findIn K (.ref zax) "__getattribute__" = some (some (.builtin "BaseException.__getattribute__"))) (ze8:PySem.W.findIn K (.ref zax) "__getattr__" = some none) (zgl:PySem.W.findIn K (.ref zax) "__class__" = some (some (.builtin "object.__class__"))) (zfa:PySem.W.subIn K (.ref zax) (.type "BaseException")=some true) (zgk:PySem.W.subIn K (.ref zax) (.type "object")=some true)
  {nm_NoSize q_NoSize N_NoSize bs_NoSize bm_NoSize hdct_NoSize sn_NoSize zlW ab_NoSize col_NoSize dd_NoSize k0_NoSize k1_NoSize k2_NoSize k3_NoSize k5_NoSize} (o_NoSize:K.lookup zaO=some (excClassObj nm_NoSize q_NoSize zaO N_NoSize bs_NoSize bm_NoSize hdct_NoSize sn_NoSize zlW ab_NoSize col_NoSize dd_NoSize k0_NoSize k1_NoSize k2_NoSize k3_NoSize k5_NoSize "ValueError.__new__"))
  (zhJ:PySem.W.findIn K (.ref zaO) "__getattribute__" = some (some (.builtin "BaseException.__getattribute__"))) (zhs:PySem.W.findIn K (.ref zaO) "__getattr__" = some none) (zhR:PySem.W.findIn K (.ref zaO) "__class__" = some (some (.builtin "object.__class__"))) (zhu:PySem.W.subIn K (.ref zaO) (.type "BaseException")=some true) (zhK:PySem.W.subIn K (.ref zaO) (.type "object")=some true)
  {nm_Wrong q_Wrong N_Wrong bs_Wrong bm_Wrong hdct_Wrong sn_Wrong zmx ab_Wrong col_Wrong dd_Wrong k0_Wrong k1_Wrong k2_Wrong k3_Wrong k5_Wrong} (o_Wrong:K.lookup zaT=some (excClassObj nm_Wrong q_Wrong zaT N_Wrong bs_Wrong bm_Wrong hdct_Wrong sn_Wrong zmx ab_Wrong col_Wrong dd_Wrong k0_Wrong k1_Wrong k2_Wrong k3_Wrong k5_Wrong "ValueError.__new__"))
  (zg4:PySem.W.findIn K (.ref zaT) "__getattribute__" = some (some (.builtin "BaseException.__getattribute__"))) (zg9:PySem.W.findIn K (.ref zaT) "__getattr__" = some none) (ziW:PySem.W.findIn K (.ref zaT) "__class__" = some (some (.builtin "object.__class__"))) (zgX:PySem.W.subIn K (.ref zaT) (.type "BaseException")=some true) (zjl:PySem.W.subIn K (.ref zaT) (.type "object")=some true)
  (zfz:PySem.W.excIn K zaG bmVE "ValueError.__new__" = true)
  (zgg:PySem.W.excIn K zaO bmVE "ValueError.__new__" = true)
  {zfb:Addr} {odi_NoRow ani_NoRow:Option Addr} {sli_NoRow:Array (Option Value)} {oci_NoRow kVi_NoRow dci_NoRow pmi_NoRow cdi_NoRow cti_NoRow:Value} (fd_NoRow:PySem.W.findIn K (.ref zaU) "__init__" = some (some (.ref zfb))) (zi4:K.lookup zfb=some ⟨oci_NoRow,odi_NoRow, .func (PySem.W.fnOf "__init__" "NoRow.__init__" (zan ze6) (zaj ze6) (zab ze6) .none kVi_NoRow dci_NoRow pmi_NoRow ani_NoRow cdi_NoRow cti_NoRow),sli_NoRow⟩) (zix:PySem.W.codeIn K cdi_NoRow "NoRow.__init__" = true) (zi7:PySem.W.keepIn K (.ref zfb)=true)
  (ziq:PySem.W.findIn K (.ref zaU) "__setattr__" = some (some (.builtin "object.__setattr__"))) (zha:PySem.W.findIn K (.ref zaU) "at" = some none) (zjc:zjF K zaU zfb=true) (zjn:PySem.W.typeIn K (.ref zfb)=some (.type "function")) (zjg:(PySem.W.clsIn K zaU).any (·.hasDict)=true)
  {zdr:Addr} {odi_NoPouch ani_NoPouch:Option Addr} {sli_NoPouch:Array (Option Value)} {oci_NoPouch kVi_NoPouch dci_NoPouch pmi_NoPouch cdi_NoPouch cti_NoPouch:Value} (fd_NoPouch:PySem.W.findIn K (.ref zax) "__init__" = some (some (.ref zdr))) (zgo:K.lookup zdr=some ⟨oci_NoPouch,odi_NoPouch, .func (PySem.W.fnOf "__init__" "NoPouch.__init__" (zan zds) (zaj zds) (zab zds) .none kVi_NoPouch dci_NoPouch pmi_NoPouch ani_NoPouch cdi_NoPouch cti_NoPouch),sli_NoPouch⟩) (zgx:PySem.W.codeIn K cdi_NoPouch "NoPouch.__init__" = true) (zgt:PySem.W.keepIn K (.ref zdr)=true)
  (zgi:PySem.W.findIn K (.ref zax) "__setattr__" = some (some (.builtin "object.__setattr__"))) (zfk:PySem.W.findIn K (.ref zax) "at" = some none) (zf4:zjF K zax zdr=true) (zf2:PySem.W.typeIn K (.ref zdr)=some (.type "function")) (zf0:(PySem.W.clsIn K zax).any (·.hasDict)=true)
  {zfe:Addr} {odi_Wrong ani_Wrong:Option Addr} {sli_Wrong:Array (Option Value)} {oci_Wrong kVi_Wrong dci_Wrong pmi_Wrong cdi_Wrong cti_Wrong:Value} (fd_Wrong:PySem.W.findIn K (.ref zaT) "__init__" = some (some (.ref zfe))) (ziv:K.lookup zfe=some ⟨oci_Wrong,odi_Wrong, .func (PySem.W.fnOf "__init__" "Wrong.__init__" (zan zfh) (zaj zfh) (zab zfh) .none kVi_Wrong dci_Wrong pmi_Wrong ani_Wrong cdi_Wrong cti_Wrong),sli_Wrong⟩) (ziX:PySem.W.codeIn K cdi_Wrong "Wrong.__init__" = true) (zjk:PySem.W.keepIn K (.ref zfe)=true)
  (zji:PySem.W.findIn K (.ref zaT) "__setattr__" = some (some (.builtin "object.__setattr__"))) (zgZ:PySem.W.findIn K (.ref zaT) "at" = some none) (ziC:zjF K zaT zfe=true) (ziU:PySem.W.typeIn K (.ref zfe)=some (.type "function")) (ziy:(PySem.W.clsIn K zaT).any (·.hasDict)=true)
  (rd_b:PySem.W.readsIn K zav (.type "type")=true) (fc_b:PySem.W.findCls K (.ref zav) (.type "type") "__init__" = some (.val (.builtin "ValueError.__init__"))) (sg_b:PySem.W.specialIn K (.ref zav) "__getattribute__" = some (some (.builtin "type.__getattribute__")))
  (zf3:PySem.W.subIn K (.ref zax) (.type "ValueError")=some true)
  (zbL:PySem.W.subIn K (.ref zax) (.ref zav)=some true)
  (zc5:PySem.W.subIn K (.ref zax) (.ref zaU)=some false)
  (zch:PySem.W.subIn K (.ref zax) (.ref zaG)=some false)
  (zck:PySem.W.subIn K (.ref zax) (.ref zax)=some true)
  (zcF:PySem.W.subIn K (.ref zax) (.ref zaO)=some false)
  (zcS:PySem.W.subIn K (.ref zax) (.ref zaT)=some false)
  (zhP:PySem.W.subIn K (.ref zaO) (.type "ValueError")=some true)
  (zb7:PySem.W.subIn K (.ref zaO) (.ref zav)=some true)
  (zdl:PySem.W.subIn K (.ref zaO) (.ref zaU)=some false)
  (zcG:PySem.W.subIn K (.ref zaO) (.ref zaG)=some false)
  (zcH:PySem.W.subIn K (.ref zaO) (.ref zax)=some false)
  (zcT:PySem.W.subIn K (.ref zaO) (.ref zaO)=some true)
  (zdk:PySem.W.subIn K (.ref zaO) (.ref zaT)=some false)
  (zgp:PySem.W.subIn K (.ref zaG) (.type "ValueError")=some true)
  (zbQ:PySem.W.subIn K (.ref zaG) (.ref zav)=some true)
  (zcX:PySem.W.subIn K (.ref zaG) (.ref zaU)=some false)
  (zcj:PySem.W.subIn K (.ref zaG) (.ref zaG)=some true)
  (zcn:PySem.W.subIn K (.ref zaG) (.ref zax)=some false)
  (zcP:PySem.W.subIn K (.ref zaG) (.ref zaO)=some false)
  (zc1:PySem.W.subIn K (.ref zaG) (.ref zaT)=some false)
  (ziw:PySem.W.subIn K (.ref zaU) (.type "ValueError")=some true)
  (zcg:PySem.W.subIn K (.ref zaU) (.ref zav)=some true)
  (zdv:PySem.W.subIn K (.ref zaU) (.ref zaU)=some true)
  (zc6:PySem.W.subIn K (.ref zaU) (.ref zaG)=some false)
  (zcZ:PySem.W.subIn K (.ref zaU) (.ref zax)=some false)
  (zdi:PySem.W.subIn K (.ref zaU) (.ref zaO)=some false)
  (zdx:PySem.W.subIn K (.ref zaU) (.ref zaT)=some false)
  (zjm:PySem.W.subIn K (.ref zaT) (.type "ValueError")=some true)
  (zci:PySem.W.subIn K (.ref zaT) (.ref zav)=some true)
  (zdD:PySem.W.subIn K (.ref zaT) (.ref zaU)=some false)
  (zc0:PySem.W.subIn K (.ref zaT) (.ref zaG)=some false)
  (zc2:PySem.W.subIn K (.ref zaT) (.ref zax)=some false)
  (zdj:PySem.W.subIn K (.ref zaT) (.ref zaO)=some false)
  (zdE:PySem.W.subIn K (.ref zaT) (.ref zaT)=some true)
  {ts:List Addr}
  (lc_upto:K.lookup tc_upto=some ⟨.type "code",odc_upto, .fields vs_upto,slc_upto⟩)
  (lc_below:K.lookup tc_below=some ⟨.type "code",odc_below, .fields vs_below,slc_below⟩)
  (lc_so_manieth:K.lookup tc_so_manieth=some ⟨.type "code",odc_so_manieth, .fields vs_so_manieth,slc_so_manieth⟩)
  (hv_upto:vs_upto[11]? = some (.ref tp_upto)) (hh_upto:zpk vs_upto tc_upto tp_upto=true)
  (hv_below:vs_below[11]? = some (.ref tp_below)) (hh_below:zpk vs_below tc_below tp_below=true)
  (hv_so_manieth:vs_so_manieth[11]? = some (.ref tp_so_manieth)) (hh_so_manieth:zpk vs_so_manieth tc_so_manieth tp_so_manieth=true)
  (hsub:tp_upto ∈ ts∧tp_below ∈ ts∧tp_so_manieth ∈ ts) (hnd : [tp_upto,tp_below,tp_so_manieth].Nodup) (hall:∀ P ∈ ts,P=tp_upto∨P=tp_below∨P=tp_so_manieth)
  : ∃ fd:FuncData,(∀ (s:Shared) (v:Value),BindsTo s fd ⟨[v],[]⟩ [("_law_script",v)])∧(∀ P ∈ ts,∃ c,PySem.W.codeHdIn K c P=true)∧∀ base:Heap,K.In base→base.Ns mainGlobals mg→BltB base mg→FnOk l.prog w K mg base CX0 7 fa fd ["_law_script"] (zlm K ts):=by
 have e:=hfa.symm.trans (PySem.W.mg_of X G a32)
 cases e
 have zkz:=PySem.W.mg_none_of X G zfw
 have ztA:=PySem.W.mg_none_of X G zrp
 have ztG:=PySem.W.mg_none_of X G zro
 have zss:=PySem.W.mg_none_of X G znG
 have ztN:=PySem.W.mg_none_of X G zqK
 have ztH:=PySem.W.mg_none_of X G zqa
 have zqS:=PySem.W.mg_none_of X G zk0
 have zoW:=PySem.W.mg_none_of X G zjh
 have ztt:=PySem.W.mg_none_of X G zq4
 have B:Blt mg:=⟨zkz,ztA,ztG,zss,ztN,ztH,zqS,zoW,ztt⟩
 have zhe:∃ t,mg "LONGEST" = some (.int 1000000000 t):=⟨_,PySem.W.mg_of X G zhn⟩
 have zgN:XC K zav:=⟨⟨_,_,_,_,_,_,_,_,_,_,_,_,_,_,_,_,o_RankError⟩,zeI,zeT,zeq,zeG,zeD⟩
 have C_RankError:ClsN K mg "RankError":=⟨zav,zgN,PySem.W.mg_of X G zaX,zaX⟩
 have zlI:XC K zaU:=⟨⟨_,_,_,_,_,_,_,_,_,_,_,_,_,_,_,_,o_NoRow⟩,zgY,zg8,ziF,zg5,zjr⟩
 have C_NoRow:ClsN K mg "NoRow":=⟨zaU,zlI,PySem.W.mg_of X G zbq,zbq⟩
 have zia:XC K zaG:=⟨⟨_,_,_,_,_,_,_,_,_,_,_,_,_,_,_,_,o_NoPlace⟩,zgh,zga,zgn,zge,zf9⟩
 have C_NoPlace:ClsN K mg "NoPlace":=⟨zaG,zia,PySem.W.mg_of X G zaQ,zaQ⟩
 have zij:XC K zax:=⟨⟨_,_,_,_,_,_,_,_,_,_,_,_,_,_,_,_,o_NoPouch⟩,zfl,ze8,zgl,zfa,zgk⟩
 have C_NoPouch:ClsN K mg "NoPouch":=⟨zax,zij,PySem.W.mg_of X G zaN,zaN⟩
 have zjM:XC K zaO:=⟨⟨_,_,_,_,_,_,_,_,_,_,_,_,_,_,_,_,o_NoSize⟩,zhJ,zhs,zhR,zhu,zhK⟩
 have C_NoSize:ClsN K mg "NoSize":=⟨zaO,zjM,PySem.W.mg_of X G za7,za7⟩
 have zln:XC K zaT:=⟨⟨_,_,_,_,_,_,_,_,_,_,_,_,_,_,_,_,o_Wrong⟩,zg4,zg9,ziW,zgX,zjl⟩
 have C_Wrong:ClsN K mg "Wrong":=⟨zaT,zln,PySem.W.mg_of X G zbp,zbp⟩
 have O_NoPlace:OwnC K mg "NoPlace":=⟨zaG,⟨zfz⟩,PySem.W.mg_of X G zaQ,zaQ⟩
 have O_NoSize:OwnC K mg "NoSize":=⟨zaO,⟨zgg⟩,PySem.W.mg_of X G za7,za7⟩
 have T_all:XTab K ["NoPouch", "NoSize", "NoPlace", "NoRow", "Wrong"] ["RankError", "NoRow", "NoPlace", "NoPouch", "NoSize", "Wrong"]:=⟨(zar (zdQ zaX zgN) (zar (zdQ zbq zlI) (zar (zdQ zaQ zia) (zar (zdQ zaN zij) (zar (zdQ za7 zjM) (zar (zdQ zbp zln) zfS)))))),(zar (zar (zbd zaN zaX zbL) (zar (zbd zaN zbq zc5) (zar (zbd zaN zaQ zch) (zar (zbd zaN zaN zck) (zar (zbd zaN za7 zcF) (zar (zbd zaN zbp zcS) zfS)))))) (zar (zar (zbd za7 zaX zb7) (zar (zbd za7 zbq zdl) (zar (zbd za7 zaQ zcG) (zar (zbd za7 zaN zcH) (zar (zbd za7 za7 zcT) (zar (zbd za7 zbp zdk) zfS)))))) (zar (zar (zbd zaQ zaX zbQ) (zar (zbd zaQ zbq zcX) (zar (zbd zaQ zaQ zcj) (zar (zbd zaQ zaN zcn) (zar (zbd zaQ za7 zcP) (zar (zbd zaQ zbp zc1) zfS)))))) (zar (zar (zbd zbq zaX zcg) (zar (zbd zbq zbq zdv) (zar (zbd zbq zaQ zc6) (zar (zbd zbq zaN zcZ) (zar (zbd zbq za7 zdi) (zar (zbd zbq zbp zdx) zfS)))))) (zar (zar (zbd zbp zaX zci) (zar (zbd zbp zbq zdD) (zar (zbd zbp zaQ zc0) (zar (zbd zbp zaN zc2) (zar (zbd zbp za7 zdj) (zar (zbd zbp zbp zdE) zfS)))))) zfS))))),(zar (zdQ zaN zf3) (zar (zdQ za7 zhP) (zar (zdQ zaQ zgp) (zar (zdQ zbq ziw) (zar (zdQ zbp zjm) zfS))))),by decide⟩
 have zlz:=zjV (st:=ze6) zi4 zix zi7
 have O_NoRow:OwnF K mg "NoRow" "at":=⟨zaU,zfb,zav, "NoRow.__init__",ze6,_, "RankError", "self", "at",⟨zjc,zjn,ziq,zha⟩,⟨rd_b,fc_b,sg_b⟩,zlz,zpe,zlz.binds (fun _ _ _ _ _ _ us hl=>us2 us hl (fun _ _=>rfl)),PySem.W.mg_of X G zaX,PySem.W.mg_of X G zbq,zbq⟩
 have zib:=zjV (st:=zds) zgo zgx zgt
 have O_NoPouch:OwnF K mg "NoPouch" "at":=⟨zax,zdr,zav, "NoPouch.__init__",zds,_, "RankError", "self", "at",⟨zf4,zf2,zgi,zfk⟩,⟨rd_b,fc_b,sg_b⟩,zib,zml,zib.binds (fun _ _ _ _ _ _ us hl=>us2 us hl (fun _ _=>rfl)),PySem.W.mg_of X G zaX,PySem.W.mg_of X G zaN,zaN⟩
 have zlO:=zjV (st:=zfh) ziv ziX zjk
 have O_Wrong:OwnF K mg "Wrong" "at":=⟨zaT,zfe,zav, "Wrong.__init__",zfh,_, "RankError", "self", "at",⟨ziC,ziU,zji,zgZ⟩,⟨rd_b,fc_b,sg_b⟩,zlO,zon,zlO.binds (fun _ _ _ _ _ _ us hl=>us2 us hl (fun _ _=>rfl)),PySem.W.mg_of X G zaX,PySem.W.mg_of X G zbp,zbp⟩
 have F_at:XFld K ["NoPouch", "NoRow", "Wrong"] "at":=(zar (zdQ zaN ⟨zfl,ze8,zfk,zfa,zf0⟩) (zar (zdQ zbq ⟨zgY,zg8,zha,zg5,zjg⟩) (zar (zdQ zbp ⟨zg4,zg9,zgZ,zgX,ziy⟩) zfS)))
 have zkc:HasFn K mg "look_pouch" zcq:=zaC X G a0 l0 c0 k0
 have zkx:HasFn K mg "good_head" zcY:=zaC X G a1 l1 c1 k1
 have zjR:HasFn K mg "good_entry" zcx:=zaC X G a2 l2 c2 k2
 have zkO:HasFn K mg "stands_at" zc3:=zaC X G a3 l3 c3 k3
 have zko:HasFn K mg "good_alone" zco:=zaC X G a4 l4 c4 k4
 have ziL:HasFn K mg "good_beside" zbW:=zaC X G a5 l5 c5 k5
 have ziK:HasFn K mg "near_enough" zbZ:=zaC X G a6 l6 c6 k6
 have zlX:HasFn K mg "look_row" zdt:=zaC X G a7 l7 c7 k7
 have zoS:HasFn K mg "packed" zd4:=zaC X G a8 l8 c8 k8
 have zkQ:HasFn K mg "places_of" zcV:=zaC X G a9 l9 c9 k9
 have zqn:HasFn K mg "judge" zf8:=zaC X G a10 l10 c10 k10
 have ziJ:HasFn K mg "look_places" zbY:=zaC X G a11 l11 c11 k11
 have zh3:HasFn K mg "bounds_ahead" zbC:=zaC X G a12 l12 c12 k12
 have zrU:HasFn K mg "upto" zgA:=zaC X G a13 l13 c13 k13
 have zp5:HasFn K mg "below" zeH:=zaC X G a14 l14 c14 k14
 have zjE:HasFn K mg "so_manieth" zbs:=zaC X G a15 l15 c15 k15
 have za5:HasFn K mg "first_where" zaR:=zaC X G a16 l16 c16 k16
 have zms:HasFn K mg "_law_mix" zdp:=zaC X G a17 l17 c17 k17
 have zkn:HasFn K mg "_law_draws" zcw:=zaC X G a18 l18 c18 k18
 have zkv:HasFn K mg "_law_upto" zcf:=zaC X G a19 l19 c19 k19
 have zjS:HasFn K mg "_law_below" zbK:=zaC X G a20 l20 c20 k20
 have zjP:HasFn K mg "_law_alone" zcz:=zaC X G a21 l21 c21 k21
 have zi3:HasFn K mg "_law_beside" zbT:=zaC X G a22 l22 c22 k22
 have zkY:HasFn K mg "_law_form" zc4:=zaC X G a23 l23 c23 k23
 have zmd:HasFn K mg "_law_all" zdq:=zaC X G a24 l24 c24 k24
 have zj8:HasFn K mg "_law_entry" zcA:=zaC X G a25 l25 c25 k25
 have zjA:HasFn K mg "_law_drawn" zcv:=zaC X G a26 l26 c26 k26
 have zku:HasFn K mg "_law_slack" zcy:=zaC X G a27 l27 c27 k27
 have zjW:HasFn K mg "_law_wrong" zbM:=zaC X G a28 l28 c28 k28
 have ziG:HasFn K mg "_law_judged" zbV:=zaC X G a29 l29 c29 k29
 have zje:HasFn K mg "_law_within" zbS:=zaC X G a30 l30 c30 k30
 have zks:HasFn K mg "_law_tells" zct:=zaC X G a31 l31 c31 k31
 have FL:=zjV (st:=ziR) l32 c32 k32
 obtain ⟨tb_upto,th_upto⟩:=zmN (st:=zgA) a13 l13 lc_upto hv_upto hh_upto
 obtain ⟨tb_below,th_below⟩:=zmN (st:=zeH) a14 l14 lc_below hv_below hh_below
 obtain ⟨tb_so_manieth,th_so_manieth⟩:=zmN (st:=zbs) a15 l15 lc_so_manieth hv_so_manieth hh_so_manieth
 refine ⟨PySem.W.fnOf "law" "law" (zan ziR) (zaj ziR) (zab ziR) .none kV32 dc32 pm32 an32 cd32 ct32,fun s v => .of_eq rfl,?_,fun base KB GB BB=>?_⟩
 ·intro P hP
  rcases hall P hP with e | e | e
  ·rw [e];exact ⟨_,th_upto⟩
  ·rw [e];exact ⟨_,th_below⟩
  ·rw [e];exact ⟨_,th_so_manieth⟩
 have T_upto:TabF K mg base "upto":=⟨KB,GB,BB,_,_,tb_upto,th_upto⟩
 have T_below:TabF K mg base "below":=⟨KB,GB,BB,_,_,tb_below,th_below⟩
 have T_so_manieth:TabF K mg base "so_manieth":=⟨KB,GB,BB,_,_,tb_so_manieth,th_so_manieth⟩
 have zfB:=zkL (P:=l.prog) (w:=w) (base:=base) B zkx
 have zeh:=zkZ (P:=l.prog) (w:=w) (base:=base) B zkO
 have zeE:=zj7 (P:=l.prog) (w:=w) (base:=base) B zko
 have zd6:=zjs (P:=l.prog) (w:=w) (base:=base) B ziK
 have ziD:=zoh (P:=l.prog) (w:=w) (base:=base) B zoS
 have zbB:=zh4 (P:=l.prog) (w:=w) (base:=base) B zh3
 have zfj:=zmi (P:=l.prog) (w:=w) (base:=base) B zms
 have zfv:=zla (P:=l.prog) (w:=w) (base:=base) B zkv
 have zeU:=zjZ (P:=l.prog) (w:=w) (base:=base) B zjS
 have zeF:=zjt (P:=l.prog) (w:=w) (base:=base) B zjP
 have zed:=zjd (P:=l.prog) (w:=w) (base:=base) B zi3
 have zf7:=zlY (P:=l.prog) (w:=w) (base:=base) B zmd
 have zeC:=zjK (P:=l.prog) (w:=w) (base:=base) B zj8
 have zex:=zj3 (P:=l.prog) (w:=w) (base:=base) B zku
 have zdK:=zjH (P:=l.prog) (w:=w) (base:=base) B zjW
 have zdm:=ziz (P:=l.prog) (w:=w) (base:=base) B zje
 have zd3:=ziI (P:=l.prog) (w:=w) (base:=base) B ziL zd6
 have zfy:=zkS (P:=l.prog) (w:=w) (base:=base) B zkQ ziD
 have zeV:=zkm (P:=l.prog) (w:=w) (base:=base) B zkn zfj
 have zef:=zk5 (P:=l.prog) (w:=w) (base:=base) B zkY zeF zed
 have zeO:=zjI (P:=l.prog) (w:=w) (base:=base) B zjA zeC
 have ze1:=zjC (P:=l.prog) (w:=w) (base:=base) B zjR zeE zd3 zeh
 have zf6:=zmf (P:=l.prog) (w:=w) (base:=base) B zlX zhe O_NoRow
 have zd9:=zjj (P:=l.prog) (w:=w) (base:=base) B ziJ O_Wrong
 have znY:=zrY (P:=l.prog) (w:=w) (base:=base) B zrU zbB za5 T_upto
 have zkM:=zrf (P:=l.prog) (w:=w) (base:=base) B zp5 zbB za5 T_below
 have zer:=zjx (P:=l.prog) (w:=w) (base:=base) B zjE za5 O_NoPlace T_so_manieth
 have zeZ:=zjU (P:=l.prog) (w:=w) (base:=base) B zkc ze1 zfB O_NoPouch
 have zeW:=zjT (P:=l.prog) (w:=w) (base:=base) B zks zeU zfv zdm zkM zer znY
 have zk1:=zru (P:=l.prog) (w:=w) (base:=base) B zqn zd9 zeZ zf6 zfy O_NoSize
 have zec:=ziO (P:=l.prog) (w:=w) (base:=base) B ziG C_NoPouch C_Wrong zk1 F_at T_all
 exact zp3 [(tp_upto, "upto",⟨110,53,110,84⟩,zgU "upto"),(tp_below, "below",⟨112,53,112,85⟩,zgU "below"),(tp_so_manieth, "so_manieth",⟨118,40,118,73⟩,zgU "so_manieth")] hnd (by simp only [List.mem_cons,List.not_mem_nil,or_false,forall_eq_or_imp,forall_eq];exact hsub) (by simp only [List.mem_cons,List.not_mem_nil,or_false,forall_eq_or_imp,forall_eq];exact ⟨⟨_,tb_upto⟩,⟨_,tb_below⟩,⟨_,tb_so_manieth⟩⟩) (ztr B FL zf7 zeO zeV zef zec zex zeW zdK) M.zqo
theorem walk {l:PySem.W.OpenLaw} {q:Program} {loose:List Str} {XP:(Str→Option Value)→Heap→Prop} {YP:World→Heap→Prop} {d:DefRec} {K:Params→PySem.W.Frag} {ts:List Addr} (hn:l.most=some 63) (hdf:d.params.defaults=[])
  (hY:∀ (w:World) (h:Heap),YP w h→(K w.params).In h∧∀ P ∈ ts,h.get? P=some (PySem.W.tabObj #[])) (hTK:∀ w:World,PySem.W.noTabs (K w.params)=true)
  (F:∀ (w:World) (mg:Str→Option Value) (fa:Addr) (h:Heap),(K w.params).In h→h.Ns mainGlobals mg→mg d.name=some (.ref fa) →
   ∃ fd:FuncData,(∀ (s:Shared) (u:Value),BindsTo s fd ⟨[u],[]⟩ [("_law_script",u)])∧(∀ P ∈ ts,∃ c,PySem.W.codeHdIn (K w.params) c P=true)∧∀ base:Heap,(K w.params).In base→base.Ns mainGlobals mg→BltB base mg→FnOk l.prog w (K w.params) mg base CX0 7 fa fd ["_law_script"] (zlm (K w.params) ts)) :
  PySem.W.WalkO q loose XP YP l.row.toRowW d [] (fun f vs=>PySem.call f vs) :=
 L2.zpg (n:=63) (k:=7) (x := "_law_script") (CX:=fun _=>CX0) (sp:=fun w=>zlm (K w.params) ts) hn (by decide) hdf ⟨rfl,by decide,by decide⟩ hY hTK F (fun _ _ a ns hl _ hTb hS=>⟨a,ns,rfl,hS,hl,hTb,fun _=>rfl⟩) fun _ _ _ _ _ z=>z
end K85
open PySem PySem.W PyProof.Rows
namespace HD
open PySem PySem.W PyProof.Rows
def runT (B:String→Option Builtin) (p:Program) (w:World) (lo:Nat) (an:Option Value):Nat→SharedT→Thread→Option SharedT
 | 0,_,_=>none
 | m + 1,x,th=>bif through th then some x else bif stepOk lo an th then (stepT (denote B) p w x th).bind (fun y=>runT B p w lo an m y.1 y.2) else none
theorem zs9 {B:String→Option Builtin} {p:Program} {w:World} {lo:Nat} {an:Option Value} (m:Nat) :
  ∀ (x y:SharedT) (th:Thread),runT B p w lo an m x th=some y→topRun B p w lo an m x.abs th=some y.abs:=by
 induction m with
 | zero=>intro x y th z;cases z
 | succ m ih =>
  intro x y th z
  unfold runT at z;unfold topRun
  cases a:through th <;> rw [a] at z
  ·cases b:stepOk lo an th <;> rw [b] at z
   ·cases z
   ·obtain ⟨u,hu,z'⟩:=Option.bind_eq_some_iff.mp (show (stepT (denote B) p w x th).bind _=some y from z)
    dsimp only
    rw [stepT_spec (s':=u.1) (t':=u.2) hu]
    exact ih _ _ _ z'
  ·cases z;rfl
def grow:List Obj→BT→Nat→BT
 | [],T,_=>T
 | o :: l,T,n=>grow l (T.ins n o) (n + 1)
noncomputable def boot (w:World) (os:OsState):SharedT:=⟨grow (boot_heap w.params).objs.toList .nil 0,11,(boot_heap w.params).life,#[],boot_drawn,boot_toks,os⟩
noncomputable def ends (p:Program) (N:Nat) (w:World) (os:OsState):Option SharedT:=runT treeTable p w 11 (some (.ref 6)) N (boot w os) (topStub p)
theorem zni (w:World):((boot_heap w.params).isNs mainGlobals && (#[] : Array GenState).size == 0,(boot_heap w.params).objs.size,(boot_heap w.params).nsMap mainGlobals "__annotations__")=(true,11,some (Value.ref 6)):=by kernel_rfl
theorem boot_abs (w:World) (os:OsState):(boot w os).abs=⟨boot_heap w.params,#[],boot_drawn,boot_toks,os⟩:=by kernel_rfl
def fits (p:Program) (h:Heap) (y:SharedT):Bool:=staticsOk (importedModules p.main.body) h y.abs.heap && namesBound p y.abs.heap && gensDone y.abs && laidKept h y.abs.heap
theorem left {p q:Program} {loose:List Str} {Xt:Shared→Bool} {α:Type} {Yf:Shared→α} {Ya:World→α} {N:Nat} {g0:Bool}
  (plain:opening p=plainProg p.main.scope.names) (hN:Nat.ble 600 N=true) (fence:∀ s,fenceModules? p s=some s)
  (tests:∀ (w:World) (os:OsState),(ends p N w os).map (fits p (boot_heap w.params))=some true)
  (zp1:∀ (w:World) (os:OsState),(ends p N w os).map (fun y=>openSeen q loose (importedModules p.main.body) Xt g0 y.abs)=some (openGood q loose))
  (hook:∀ (w:World) (os:OsState),(ends p N w os).map (fun y=>Yf y.abs)=some (Ya w)) :
  LeftO p q loose Xt Yf Ya N g0:=by
 intro w
 obtain ⟨⟨hp,ge,dr,tk,os⟩,ho,hq⟩:=Option.map_eq_some_iff.mp (boot_open plain hN fence w)
 simp only [Prod.mk.injEq] at hq
 obtain ⟨rfl,rfl,rfl,rfl⟩:=hq
 have bs:=zni w
 simp only [Prod.mk.injEq] at bs
 obtain ⟨y,hy,a1⟩:=Option.map_eq_some_iff.mp (tests w os)
 have a2:=zp1 w os
 have a3:=hook w os
 rw [hy] at a2 a3
 have rr:=zs9 _ _ _ _ hy
 rw [boot_abs] at rr
 have tt:topFrom treeTable p w N ⟨boot_heap w.params,#[],boot_drawn,boot_toks,os⟩ = some y.abs:=by
  unfold topFrom;dsimp only
  rw [bs.1,bs.2.1,bs.2.2,rr]
  show (match fits p (boot_heap w.params) y with | true=>some y.abs | false=>none)=some y.abs
  rw [a1]
 show ((fencedOpening treeTable p w N).bind (topFrom treeTable p w N)).map _=_
 rw [ho,Option.bind_some,tt,Option.map_some,Option.some.injEq,Prod.mk.injEq]
 exact ⟨Option.some.inj a2,Option.some.inj a3⟩
end HD
namespace HD
open PySem PySem.W PyProof.Rows
set_option maxRecDepth 100000
set_option maxHeartbeats 0
noncomputable def zsX (ds:List Nat) (l:List Stmt):List Stmt:=@List.rec Stmt (fun _=>Nat→List Stmt) (fun _=>[]) (fun s _ f i=>@Bool.rec (fun _=>List Stmt) (s :: f (Nat.succ i)) (f (Nat.succ i)) (ds.any (Nat.beq i))) l 0
noncomputable def kept:Program:={ PySem.Challenge.pw_rankpouch_k85_whole_judge with main:={ PySem.Challenge.pw_rankpouch_k85_whole_judge.main with body:=zsX [0,7,15,20,23,25,30] PySem.Challenge.pw_rankpouch_k85_whole_judge.main.body } }
noncomputable def seenX (s:Shared):Bool:=xlAt kept [] s && recOk (RowW.records (OpenRow.toRowW (OpenLaw.row PySem.Challenge.rw_rankpouch_k85_whole_judge))) s
theorem said:OpenLaw.wellSaid PySem.Challenge.rw_rankpouch_k85_whole_judge=true:=by kernel_rfl
theorem plain:opening PySem.Challenge.pw_rankpouch_k85_whole_judge=plainProg PySem.Challenge.pw_rankpouch_k85_whole_judge.main.scope.names:=by kernel_rfl
theorem fence (s:Shared):fenceModules? PySem.Challenge.pw_rankpouch_k85_whole_judge s=some s:=by kernel_rfl
theorem tests (w:World) (os:OsState):(ends PySem.Challenge.pw_rankpouch_k85_whole_judge 5140 w os).map (fits PySem.Challenge.pw_rankpouch_k85_whole_judge (boot_heap w.params))=some true:=by kernel_rfl
theorem zp1 (w:World) (os:OsState):(ends PySem.Challenge.pw_rankpouch_k85_whole_judge 5140 w os).map (fun y=>openSeen kept [] (importedModules PySem.Challenge.pw_rankpouch_k85_whole_judge.main.body) seenX true y.abs)=some (openGood kept []):=by kernel_rfl
end HD
open PySem PySem.W PyProof.Rows
local macro_rules
 | `(tactic| o_head $H)=>`(tactic| refine holds_open (q:=HD.kept) (loose:=[]) (N:=5140) (Xt:=HD.seenX)
   (XP:=XL HD.kept []) (Yf:=Hook.obs $H) (Ya:=Hook.val $H) (YP:=Hook.says $H)
   ?_ (Hook.of $H) (Hook.keeps $H) (fun s e=>xl_of s (Bool.and_eq_true_iff.mp e).1) XL.keeps
   (by rfl) (by rfl) (by rfl) (fun s e=>recFacts_of (Bool.and_eq_true_iff.mp e).2)
   (by rfl) (by assumption) (by decide +kernel) ⟨rfl,rfl,rfl,rfl,rfl,by decide +kernel⟩ ?_ ?_)
set_option maxRecDepth 100000 in
set_option maxHeartbeats 0 in
theorem PySem.Challenge.cw_rankpouch_k85_whole_judge_holds : PySem.Challenge.rw_rankpouch_k85_whole_judge.Holds := by
 w_on
 refine holds_law HD.said fun said=>?_
 k_head
 ·clear said
  refine HD.left HD.plain (by kernel_rfl) HD.fence HD.tests HD.zp1 ?_
  intro w os
  kernel_rfl
 ·clear said
  w_witness2
 clear said
 k_fill
 refine K85.walk (l:=PySem.Challenge.rw_rankpouch_k85_whole_judge) rfl rfl (fun w h Y=>⟨PySem.W.km_in_of Y,PySem.W.km_tabs_of Y⟩) (fun w=>by kernel_rfl) ?F
 case F =>
  intro w mg fa h KX G hmg
  refine' K85.all_mk KX G hmg ?a0 ?l0 ?c0 ?k0 ?a1 ?l1 ?c1 ?k1 ?a2 ?l2 ?c2 ?k2 ?a3 ?l3 ?c3 ?k3 ?a4 ?l4 ?c4 ?k4 ?a5 ?l5 ?c5 ?k5 ?a6 ?l6 ?c6 ?k6 ?a7 ?l7 ?c7 ?k7 ?a8 ?l8 ?c8 ?k8 ?a9 ?l9 ?c9 ?k9 ?a10 ?l10 ?c10 ?k10 ?a11 ?l11 ?c11 ?k11 ?a12 ?l12 ?c12 ?k12 ?a13 ?l13 ?c13 ?k13 ?a14 ?l14 ?c14 ?k14 ?a15 ?l15 ?c15 ?k15 ?a16 ?l16 ?c16 ?k16 ?a17 ?l17 ?c17 ?k17 ?a18 ?l18 ?c18 ?k18 ?a19 ?l19 ?c19 ?k19 ?a20 ?l20 ?c20 ?k20 ?a21 ?l21 ?c21 ?k21 ?a22 ?l22 ?c22 ?k22 ?a23 ?l23 ?c23 ?k23 ?a24 ?l24 ?c24 ?k24 ?a25 ?l25 ?c25 ?k25 ?a26 ?l26 ?c26 ?k26 ?a27 ?l27 ?c27 ?k27 ?a28 ?l28 ?c28 ?k28 ?a29 ?l29 ?c29 ?k29 ?a30 ?l30 ?c30 ?k30 ?a31 ?l31 ?c31 ?k31 ?a32 ?l32 ?c32 ?k32 ?zfw ?zrp ?zro ?znG ?zqK ?zqa ?zk0 ?zjh ?zq4 ?zhn ?zaX ?zbq ?zaQ ?zaN ?za7 ?zbp ?o_RankError ?zeI ?zeT ?zeq ?zeG ?zeD ?o_NoRow ?zgY ?zg8 ?ziF ?zg5 ?zjr ?o_NoPlace ?zgh ?zga ?zgn ?zge ?zf9 ?o_NoPouch ?zfl ?ze8 ?zgl ?zfa ?zgk ?o_NoSize ?zhJ ?zhs ?zhR ?zhu ?zhK ?o_Wrong ?zg4 ?zg9 ?ziW ?zgX ?zjl ?zfz ?zgg ?fd_NoRow ?zi4 ?zix ?zi7 ?ziq ?zha ?zjc ?zjn ?zjg ?fd_NoPouch ?zgo ?zgx ?zgt ?zgi ?zfk ?zf4 ?zf2 ?zf0 ?fd_Wrong ?ziv ?ziX ?zjk ?zji ?zgZ ?ziC ?ziU ?ziy ?rd_b ?fc_b ?sg_b ?zf3 ?zbL ?zc5 ?zch ?zck ?zcF ?zcS ?zhP ?zb7 ?zdl ?zcG ?zcH ?zcT ?zdk ?zgp ?zbQ ?zcX ?zcj ?zcn ?zcP ?zc1 ?ziw ?zcg ?zdv ?zc6 ?zcZ ?zdi ?zdx ?zjm ?zci ?zdD ?zc0 ?zc2 ?zdj ?zdE ?lc_upto ?lc_below ?lc_so_manieth ?hv_upto ?hh_upto ?hv_below ?hh_below ?hv_so_manieth ?hh_so_manieth ?hsub ?hnd ?hall
  (case a0=>k_is)
  (case l0=>k_is)
  (case c0=>k_is)
  (case k0=>k_is)
  (case a1=>k_is)
  (case l1=>k_is)
  (case c1=>k_is)
  (case k1=>k_is)
  (case a2=>k_is)
  (case l2=>k_is)
  (case c2=>k_is)
  (case k2=>k_is)
  (case a3=>k_is)
  (case l3=>k_is)
  (case c3=>k_is)
  (case k3=>k_is)
  (case a4=>k_is)
  (case l4=>k_is)
  (case c4=>k_is)
  (case k4=>k_is)
  (case a5=>k_is)
  (case l5=>k_is)
  (case c5=>k_is)
  (case k5=>k_is)
  (case a6=>k_is)
  (case l6=>k_is)
  (case c6=>k_is)
  (case k6=>k_is)
  (case a7=>k_is)
  (case l7=>k_is)
  (case c7=>k_is)
  (case k7=>k_is)
  (case a8=>k_is)
  (case l8=>k_is)
  (case c8=>k_is)
  (case k8=>k_is)
  (case a9=>k_is)
  (case l9=>k_is)
  (case c9=>k_is)
  (case k9=>k_is)
  (case a10=>k_is)
  (case l10=>k_is)
  (case c10=>k_is)
  (case k10=>k_is)
  (case a11=>k_is)
  (case l11=>k_is)
  (case c11=>k_is)
  (case k11=>k_is)
  (case a12=>k_is)
  (case l12=>k_is)
  (case c12=>k_is)
  (case k12=>k_is)
  (case a13=>k_is)
  (case l13=>k_is)
  (case c13=>k_is)
  (case k13=>k_is)
  (case a14=>k_is)
  (case l14=>k_is)
  (case c14=>k_is)
  (case k14=>k_is)
  (case a15=>k_is)
  (case l15=>k_is)
  (case c15=>k_is)
  (case k15=>k_is)
  (case a16=>k_is)
  (case l16=>k_is)
  (case c16=>k_is)
  (case k16=>k_is)
  (case a17=>k_is)
  (case l17=>k_is)
  (case c17=>k_is)
  (case k17=>k_is)
  (case a18=>k_is)
  (case l18=>k_is)
  (case c18=>k_is)
  (case k18=>k_is)
  (case a19=>k_is)
  (case l19=>k_is)
  (case c19=>k_is)
  (case k19=>k_is)
  (case a20=>k_is)
  (case l20=>k_is)
  (case c20=>k_is)
  (case k20=>k_is)
  (case a21=>k_is)
  (case l21=>k_is)
  (case c21=>k_is)
  (case k21=>k_is)
  (case a22=>k_is)
  (case l22=>k_is)
  (case c22=>k_is)
  (case k22=>k_is)
  (case a23=>k_is)
  (case l23=>k_is)
  (case c23=>k_is)
  (case k23=>k_is)
  (case a24=>k_is)
  (case l24=>k_is)
  (case c24=>k_is)
  (case k24=>k_is)
  (case a25=>k_is)
  (case l25=>k_is)
  (case c25=>k_is)
  (case k25=>k_is)
  (case a26=>k_is)
  (case l26=>k_is)
  (case c26=>k_is)
  (case k26=>k_is)
  (case a27=>k_is)
  (case l27=>k_is)
  (case c27=>k_is)
  (case k27=>k_is)
  (case a28=>k_is)
  (case l28=>k_is)
  (case c28=>k_is)
  (case k28=>k_is)
  (case a29=>k_is)
  (case l29=>k_is)
  (case c29=>k_is)
  (case k29=>k_is)
  (case a30=>k_is)
  (case l30=>k_is)
  (case c30=>k_is)
  (case k30=>k_is)
  (case a31=>k_is)
  (case l31=>k_is)
  (case c31=>k_is)
  (case k31=>k_is)
  (case a32=>k_is)
  (case l32=>k_is)
  (case c32=>k_is)
  (case k32=>k_is)
  (case zfw=>k_is)
  (case zrp=>k_is)
  (case zro=>k_is)
  (case znG=>k_is)
  (case zqK=>k_is)
  (case zqa=>k_is)
  (case zk0=>k_is)
  (case zjh=>k_is)
  (case zq4=>k_is)
  (case zhn=>k_is)
  (case zaX=>k_is)
  (case zbq=>k_is)
  (case zaQ=>k_is)
  (case zaN=>k_is)
  (case za7=>k_is)
  (case zbp=>k_is)
  (case o_RankError=>k_is)
  (case zeI=>k_is)
  (case zeT=>k_is)
  (case zeq=>k_is)
  (case zeG=>k_is)
  (case zeD=>k_is)
  (case o_NoRow=>k_is)
  (case zgY=>k_is)
  (case zg8=>k_is)
  (case ziF=>k_is)
  (case zg5=>k_is)
  (case zjr=>k_is)
  (case o_NoPlace=>k_is)
  (case zgh=>k_is)
  (case zga=>k_is)
  (case zgn=>k_is)
  (case zge=>k_is)
  (case zf9=>k_is)
  (case o_NoPouch=>k_is)
  (case zfl=>k_is)
  (case ze8=>k_is)
  (case zgl=>k_is)
  (case zfa=>k_is)
  (case zgk=>k_is)
  (case o_NoSize=>k_is)
  (case zhJ=>k_is)
  (case zhs=>k_is)
  (case zhR=>k_is)
  (case zhu=>k_is)
  (case zhK=>k_is)
  (case o_Wrong=>k_is)
  (case zg4=>k_is)
  (case zg9=>k_is)
  (case ziW=>k_is)
  (case zgX=>k_is)
  (case zjl=>k_is)
  (case zfz=>k_exc)
  (case zgg=>k_exc)
  (case fd_NoRow=>k_is)
  (case zi4=>k_is)
  (case zix=>k_is)
  (case zi7=>k_is)
  (case ziq=>k_is)
  (case zha=>k_is)
  (case zjc=>kernel_rfl)
  (case zjn=>kernel_rfl)
  (case zjg=>kernel_rfl)
  (case fd_NoPouch=>k_is)
  (case zgo=>k_is)
  (case zgx=>k_is)
  (case zgt=>k_is)
  (case zgi=>k_is)
  (case zfk=>k_is)
  (case zf4=>kernel_rfl)
  (case zf2=>kernel_rfl)
  (case zf0=>kernel_rfl)
  (case fd_Wrong=>k_is)
  (case ziv=>k_is)
  (case ziX=>k_is)
  (case zjk=>k_is)
  (case zji=>k_is)
  (case zgZ=>k_is)
  (case ziC=>kernel_rfl)
  (case ziU=>kernel_rfl)
  (case ziy=>kernel_rfl)
  (case rd_b=>kernel_rfl)
  (case fc_b=>kernel_rfl)
  (case sg_b=>kernel_rfl)
  (case zf3=>k_is)
  (case zbL=>k_is)
  (case zc5=>k_is)
  (case zch=>k_is)
  (case zck=>k_is)
  (case zcF=>k_is)
  (case zcS=>k_is)
  (case zhP=>k_is)
  (case zb7=>k_is)
  (case zdl=>k_is)
  (case zcG=>k_is)
  (case zcH=>k_is)
  (case zcT=>k_is)
  (case zdk=>k_is)
  (case zgp=>k_is)
  (case zbQ=>k_is)
  (case zcX=>k_is)
  (case zcj=>k_is)
  (case zcn=>k_is)
  (case zcP=>k_is)
  (case zc1=>k_is)
  (case ziw=>k_is)
  (case zcg=>k_is)
  (case zdv=>k_is)
  (case zc6=>k_is)
  (case zcZ=>k_is)
  (case zdi=>k_is)
  (case zdx=>k_is)
  (case zjm=>k_is)
  (case zci=>k_is)
  (case zdD=>k_is)
  (case zc0=>k_is)
  (case zc2=>k_is)
  (case zdj=>k_is)
  (case zdE=>k_is)
  (case lc_upto=>k_is)
  (case lc_below=>k_is)
  (case lc_so_manieth=>k_is)
  (case hv_upto=>exact rfl)
  (case hh_upto=>exact rfl)
  (case hv_below=>exact rfl)
  (case hh_below=>exact rfl)
  (case hv_so_manieth=>exact rfl)
  (case hh_so_manieth=>exact rfl)
  (case hsub=>decide)
  (case hnd=>decide)
  (case hall=>intro P hP;first | simpa using hP | (simp at hP;omega) | (simp only [List.mem_cons,List.not_mem_nil,or_false] at hP;rcases hP with e | e <;> simp [e];done) | (simp only [List.mem_cons,List.not_mem_nil,or_false] at hP;rcases hP with e | e | e <;> simp [e]))
