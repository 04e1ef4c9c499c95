import PyProof.Rows.All
import KE.KDictList
import KE.KItemsList
import KE.KRevIter
import KE.KSortTup
import KE.KUnpack
import PyProof.Draws
import PyProof.ExcClass3
import PyProof.ExcInit
import PyProof.InstStoreFacts
import PyProof.MaxThree
import PyProof.Rows.FStr
import Wide.All
import OpenK.AllK
import Wide.FinOn
import Lean
import PyProof.EqAt
import PyProof.EqKinds
import PyProof.TupleCall
import PySem.Challenge.RW_rankpouch_k32_the_judge_refuses
set_option Elab.async false
set_option linter.all false
set_option maxRecDepth 100000
namespace L2
open PySem PySem.Spec PyProof.Rows
abbrev Key:=Sum Int Str
def zoi:Key→Value→Bool
 | .inl k,v=>Value.isInt k v
 | .inr x,v=>Value.isStrOf x v
def keyH (w:World):Key→Int
 | .inl k=>hashInt k
 | .inr x=>hashStr w x
theorem zbn:∀ {k:Key} {v:Value},zoi k v=true→(∃ i t,k=Sum.inl i∧v=Value.int i t)∨(∃ x t,k=Sum.inr x∧v=Value.str x t)
 | .inl i,v,h=>by
  obtain ⟨t,e⟩:=Value.isInt_shape (k:=i) (v:=v) h
  exact .inl ⟨i,t,rfl,e⟩
 | .inr x,v,h=>by
  obtain ⟨t,e⟩:=Value.isStrOf_shape (x:=x) (v:=v) h
  exact .inr ⟨x,t,rfl,e⟩
theorem zoN (i:Int) (t:Tok):zoi (.inl i) (.int i t)=true:=by simp [zoi,Value.isInt]
theorem zpA (x:Str) (t:Tok):zoi (.inr x) (.str x t)=true:=by simp [zoi,Value.isStrOf]
theorem zuI (a b:Int):decide ((Sum.inl a:Key)=Sum.inl b)=(a == b):=by
 by_cases e:a=b
 ·subst e;simp
 ·have h:¬ (Sum.inl a:Key)=Sum.inl b:=fun q=>e (Sum.inl.inj q)
  rw [decide_eq_false h]
  exact (beq_eq_false_iff_ne.mpr e).symm
theorem zva (a b:Str):decide ((Sum.inr a:Key)=Sum.inr b)=decide (a=b):=by
 by_cases e:a=b
 ·subst e;simp
 ·have h:¬ (Sum.inr a:Key)=Sum.inr b:=fun q=>e (Sum.inr.inj q)
  rw [decide_eq_false h,decide_eq_false e]
theorem zuZ (a:Int) (b:Str):decide ((Sum.inl a:Key)=Sum.inr b)=false:=decide_eq_false (fun q=>nomatch q)
theorem zvJ (a:Str) (b:Int):decide ((Sum.inr a:Key)=Sum.inl b)=false:=decide_eq_false (fun q=>nomatch q)
def zbi (prog:Program) (w:World):PySem.KeyKind prog w Key where
 is:=zoi
 hash:=keyH w
 inj:=fun v a b ha hb=>by
  rcases zbn ha with ⟨i,t,rfl,rfl⟩ | ⟨x,t,rfl,rfl⟩
  ·rcases zbn hb with ⟨j,u,rfl,e⟩ | ⟨y,u,rfl,e⟩
   ·injection e with e1 _;rw [e1]
   ·exact nomatch e
  ·rcases zbn hb with ⟨j,u,rfl,e⟩ | ⟨y,u,rfl,e⟩
   ·exact nomatch e
   ·injection e with e1 _;rw [e1]
 byValue:=fun k v h=>by
  rcases zbn h with ⟨i,t,rfl,rfl⟩ | ⟨x,t,rfl,rfl⟩ <;> rfl
 pyHash:=fun hv h=>by
  rcases zbn hv with ⟨i,t,rfl,rfl⟩ | ⟨x,t,rfl,rfl⟩
  ·exact wpAny_pyHash_int h
  ·exact wpAny_pyHash_str h
 eqBool:=fun hu hv h=>by
  rcases zbn hu with ⟨i,t,rfl,rfl⟩ | ⟨x,t,rfl,rfl⟩
  ·rcases zbn hv with ⟨j,u,rfl,rfl⟩ | ⟨y,u,rfl,rfl⟩
   ·rw [zuI] at h;exact wpAny_eqBool_int h
   ·rw [zuZ] at h;exact SeqAt.EqAt.int_str i t y u _ _ _ _ h
  ·rcases zbn hv with ⟨j,u,rfl,rfl⟩ | ⟨y,u,rfl,rfl⟩
   ·rw [zvJ] at h;exact SeqAt.EqAt.str_int x t j u _ _ _ _ h
   ·rw [zva] at h;exact wpAny_eqBool_str h
 «strs»:=fun k x t v h=>by
  rcases zbn h with ⟨i,u,rfl,e⟩ | ⟨y,u,rfl,e⟩
  ·exact nomatch e
  ·injection e with e1 _
   subst e1
   cases v <;> rfl
theorem zmj (prog:Program) (w:World) (i:Int) (t:Tok):(zbi prog w).is (.inl i) (.int i t)=true:=zoN i t
theorem zmP (prog:Program) (w:World) (x:Str) (t:Tok):(zbi prog w).is (.inr x) (.str x t)=true:=zpA x t
end L2
namespace L2
open PySem PySem.Spec PyProof.Rows
inductive V where
 | non | bl (b:Bool) | int (i:Int) | str (x:Str) | byt (b:Array UInt8) | flt (b:UInt64) | ref (a:Addr) | ty (n:String)
 deriving DecidableEq
def RelV:V→Value→Prop
 | .non,u=>u=Value.none
 | .bl b,u=>u=Value.bool b
 | .int i,u=>∃ t,u=Value.int i t
 | .str x,u=>∃ t,u=Value.str x t
 | .byt b,u=>∃ t,u=Value.bytes b t
 | .flt b,u=>∃ t,u=Value.float b t
 | .ref a,u=>u=Value.ref a
 | .ty n,u=>u=Value.type n
abbrev Vals:List V→List Value→Prop:=Paired RelV
theorem Vals.length {xs:List V} {us:List Value} (r:Vals xs us):xs.length=us.length:=Paired.length r
theorem Vals.get:∀ {xs:List V} {us:List Value} {i:Nat} {x:V},Vals xs us→xs[i]? = some x→∃ u,us[i]? = some u∧RelV x u
 | _,_,_,_, .nil,e=>by simp at e
 | _,_,0,_, .cons r _,e=>by simp at e;subst e;exact ⟨_,rfl,r⟩
 | _,_,i + 1,x, .cons _ t,e=>by
  obtain ⟨u,h1,h2⟩:=Vals.get (i:=i) (x:=x) t (by simpa using e)
  exact ⟨u,by simpa using h1,h2⟩
theorem Vals.set {x:V} {u:Value} (r:RelV x u):∀ {xs:List V} {us:List Value} (i:Nat),Vals xs us→Vals (xs.set i x) (us.set i u)
 | _,_,_, .nil => .nil
 | _,_,0, .cons _ t => .cons r t
 | _,_,i + 1, .cons q t => .cons q (Vals.set r i t)
theorem Vals.append:∀ {xs ys:List V} {us ws:List Value},Vals xs us→Vals ys ws→Vals (xs ++ ys) (us ++ ws)
 | _,_,_,_, .nil,s=>s
 | _,_,_,_, .cons r t,s => .cons r (Vals.append t s)
theorem Vals.take:∀ {xs:List V} {us:List Value} (n:Nat),Vals xs us→Vals (xs.take n) (us.take n)
 | _,_,0,_ => .nil
 | _,_,_ + 1, .nil => .nil
 | _,_,n + 1, .cons r t => .cons r (Vals.take n t)
theorem Vals.drop:∀ {xs:List V} {us:List Value} (n:Nat),Vals xs us→Vals (xs.drop n) (us.drop n)
 | _,_,0,r=>r
 | _,_,_ + 1, .nil => .nil
 | _,_,n + 1, .cons _ t=>Vals.drop n t
def RelO:Option V→Option Value→Prop
 | some v,some u=>RelV v u
 | none,none=>True
 | _,_=>False
def KV {κ:Type}:List (κ × V)→List (κ × Value)→Prop:=Paired fun (p:κ × V) (q:κ × Value)=>p.1=q.1∧RelV p.2 q.2
def kV:Key→V
 | .inl i => .int i
 | .inr x => .str x
inductive HO where
 | lst (xs:List V)
 | tup (xs:List V)
 | dK (kvs:List (Key × V)) | dT (kvs:List (List Key × V))
 | set (S:Int→Bool) (n:Nat)
 | ins (C dx:Addr) (fs:List (Str × V))
 | own (x:Addr)
 | xd (fs:List (Str × V))
 | met (f x:Addr)
 | rng (lo hi:Int)
 | frz (o:Obj) (u:HO)
 | tbl (ps:Array Value)
 | ext (φ:Heap→Prop)
abbrev Hp:=Addr→Option HO
def upd (H:Hp) (a:Addr) (o:HO):Hp:=fun b=>if b=a then some o else H b
theorem zaI {H:Hp} {a:Addr} {o:HO}:upd H a o a=some o:=by unfold upd;rw [if_pos rfl]
theorem zat {H:Hp} {a b:Addr} {o:HO} (h:b ≠ a):upd H a o b=H b:=by unfold upd;rw [if_neg h]
theorem zs6 {H:Hp} {a b:Addr} {o u:HO} (h:H a=some o) (h':H b=some u) (d:o ≠ u):a ≠ b:=by
 intro e;subst e;rw [h] at h';exact d (Option.some.inj h')
theorem zaW {H:Hp} {a b:Addr} {o:HO} (h:H a=some o) (h':H b=none):a ≠ b:=by
 intro e;subst e;rw [h] at h';cases h'
section
variable (P:Program) (w:World)
def zc1 (H:Hp) (h:Heap) (a:Addr):HO→Prop
 | .lst xs=>xs.length ≤ sizeLine∧∃ (its:List Value) (n:Nat),Vals xs its∧h.get? a=some { cls := .type "list",data := .seq its.toArray n }
 | .tup xs=>xs.length ≤ sizeLine∧∃ its:List Value,Vals xs its∧IsTup h a its.toArray
 | .dK kvs=>kvs.length ≤ sizeLine∧(a == sysModules)=false∧∃ vs,KV kvs vs∧h.DictOf (zbi P w) a vs
 | .dT kvs=>kvs.length ≤ sizeLine∧(a == sysModules)=false∧∃ xs:List (List Key × Addr × Value),
   Paired (fun (p:List Key × V) (q:List Key × Addr × Value)=>p.1=q.1∧H q.2.1=some (.tup (p.1.map kV))∧RelV p.2 q.2.2) kvs xs ∧
   ∃ o es ep,h.get? a=some o∧o.ExactDict∧o.data = .dict es ep∧es.toList=xs.map (entryOfKey (tupleKind (zbi P w)))∧(xs.map (·.1)).Nodup
 | .set S n=>h.SetOf (intKind P w) a S n
 | .ins C dx fs=>H dx=some (.own a)∧fs.length ≤ 1000∧dx ≠ a∧h.get? a=some (PySem.W.instObj C dx) ∧
   ∃ mA,h.Ns1 dx mA∧(∀ f,RelO (fs.lookup f) (mA f))∧PySem.Within mA (fs.map (·.1))
 | .own _=>∃ o,h.get? a=some o
 | .xd fs=>∃ mA,h.Ns1 a mA∧∀ f,RelO (fs.lookup f) (mA f)
 | .rng lo hi=>∃ t u v,h.get? a=some { cls := .type "range",data := .fields #[.int lo t, .int hi u, .int 1 v] }
 | .frz o u=>h.get? a=some o∧zc1 H h a u
 | .tbl ps=>h.get? a=some { cls := .none,data := .fields ps }
 | .met f x=>h.get? a=some (PySem.W.methodObj (.ref f) (.ref x))
 | .ext φ=>φ h∧(∃ o,h.get? a=some o)∧∀ h1 h2:Heap,φ h1→(∀ o,h1.get? a=some o→h2.get? a=some o)→φ h2
def HOk (H:Hp) (h:Heap):Prop:=∀ a o,H a=some o→zc1 P w H h a o
end
section
variable {P:Program} {w:World} {H H':Hp} {h h':Heap} {a:Addr} {o:HO}
theorem zc1.lt (x:zc1 P w H h a o):a < h.objs.size:=by
 cases o with
 | lst xs=>obtain ⟨_,_,_,_,e⟩:=x;exact Heap.lt_size e
 | tup xs=>obtain ⟨_,_,_,p⟩:=x;exact p.lt
 | dK kvs=>obtain ⟨_,_,_,_,o,_,_,e,_⟩:=x;exact Heap.lt_size e
 | dT kvs=>obtain ⟨_,_,_,_,o,_,_,e,_⟩:=x;exact Heap.lt_size e
 | set S n=>obtain ⟨o,_,_,_,e,_⟩:=x;exact Heap.lt_size e
 | ins C dx fs=>obtain ⟨_,_,_,e,_⟩:=x;exact Heap.lt_size e
 | own y=>obtain ⟨_,e⟩:=x;exact Heap.lt_size e
 | xd fs=>obtain ⟨_,⟨_,_,_,e,_⟩,_⟩:=x;exact Heap.lt_size e
 | rng lo hi=>obtain ⟨_,_,_,e⟩:=x;exact Heap.lt_size e
 | frz ob u=>obtain ⟨e,_⟩:=x;exact Heap.lt_size e
 | tbl ps=>exact Heap.lt_size (show h.get? a=some _ from x)
 | met f y=>exact Heap.lt_size (show h.get? a=some _ from x)
 | ext φ=>obtain ⟨_,⟨_,e⟩,_⟩:=x;exact Heap.lt_size e
theorem Paired.mapP {α β:Type} {F G:α→β→Prop}:∀ {l₁:List α} {l₂:List β},Paired F l₁ l₂→(∀ a b,F a b→G a b)→Paired G l₁ l₂
 | _,_, .nil,_ => .nil
 | _,_, .cons r t,f => .cons (f _ _ r) (Paired.mapP t f)
theorem zc1.stay (x:zc1 P w H h a o) (k:∀ b u,(b=a∨H b=some (.own a))→h.get? b=some u→h'.get? b=some u)
  (ho:∀ b,H b=some (.own a)→H' b=some (.own a)) (ht:∀ b xs,H b=some (.tup xs)→H' b=some (.tup xs)):zc1 P w H' h' a o:=by
 induction o with
 | lst xs=>obtain ⟨z,its,n,r,e⟩:=x;exact ⟨z,its,n,r,k _ _ (.inl rfl) e⟩
 | tup xs=>obtain ⟨z,its,r,ob,e,c⟩:=x;exact ⟨z,its,r,ob,k _ _ (.inl rfl) e,c⟩
 | dK kvs=>obtain ⟨z,y,vs,r,ob,es,ep,e,c⟩:=x;exact ⟨z,y,vs,r,ob,es,ep,k _ _ (.inl rfl) e,c⟩
 | dT kvs =>
  obtain ⟨z,y,xs,r,ob,es,ep,e,c⟩:=x
  exact ⟨z,y,xs,Paired.mapP r fun p q z=>⟨z.1,ht _ _ z.2.1,z.2.2⟩,ob,es,ep,k _ _ (.inl rfl) e,c⟩
 | set S n=>obtain ⟨ob,es,ep,t,e,c⟩:=x;exact ⟨ob,es,ep,t,k _ _ (.inl rfl) e,c⟩
 | ins C dx fs =>
  obtain ⟨d,z,ne,e,mA,⟨od,es,ep,e2,c⟩,r⟩:=x
  exact ⟨ho _ d,z,ne,k _ _ (.inl rfl) e,mA,⟨od,es,ep,k _ _ (.inr d) e2,c⟩,r⟩
 | own y=>obtain ⟨ob,e⟩:=x;exact ⟨ob,k _ _ (.inl rfl) e⟩
 | xd fs=>obtain ⟨mA,⟨od,es,ep,e,c⟩,r⟩:=x;exact ⟨mA,⟨od,es,ep,k _ _ (.inl rfl) e,c⟩,r⟩
 | rng lo hi=>obtain ⟨t,u,v,e⟩:=x;exact ⟨t,u,v,k _ _ (.inl rfl) e⟩
 | frz ob u ih=>obtain ⟨e,q⟩:=x;exact ⟨k _ _ (.inl rfl) e,ih q⟩
 | tbl ps =>
  have e:h.get? a=some { cls := .none,data := .fields ps }:=x
  show h'.get? a=some { cls := .none,data := .fields ps }
  exact k a _ (.inl rfl) e
 | met f y =>
  have e:h.get? a=some (PySem.W.methodObj (.ref f) (.ref y)):=x
  show h'.get? a=some (PySem.W.methodObj (.ref f) (.ref y))
  exact k a _ (.inl rfl) e
 | ext φ=>obtain ⟨p,⟨o,e⟩,st⟩:=x;exact ⟨st _ _ p fun o q=>k _ _ (.inl rfl) q,⟨o,k _ _ (.inl rfl) e⟩,st⟩
theorem HOk.lt (x:HOk P w H h) (e:H a=some o):a < h.objs.size:=(x a o e).lt
theorem HOk.fresh (x:HOk P w H h) (e:h.objs.size ≤ a):H a=none:=by
 cases q:H a with
 | none=>rfl
 | some u=>exact absurd (Nat.lt_of_lt_of_le (x.lt q) e) (Nat.lt_irrefl _)
theorem HOk.kept (x:HOk P w H h) (k:∀ b u,h.get? b=some u→h'.get? b=some u):HOk P w H h':=fun a o e =>
 (x a o e).stay (fun b u _ q=>k b u q) (fun _ q=>q) fun _ _ q=>q
theorem HOk.laid (x:HOk P w H h) (k:∀ b u,h.get? b=some u→h'.get? b=some u) (hp:h.objs.size ≤ a) (new:zc1 P w (upd H a o) h' a o):HOk P w (upd H a o) h':=fun b u e=>by
 have hn:=x.fresh hp
 by_cases hb:b=a
 ·subst hb;rw [zaI] at e;cases e;exact new
 ·rw [zat hb] at e
  exact (x b u e).stay (fun c v _ q=>k c v q) (fun c q=>by rw [zat (zaW q hn)];exact q) fun c xs q=>by rw [zat (zaW q hn)];exact q
end
def Rd (H:Hp) (a:Addr) (u:HO):Prop:=H a=some u∨∃ o,H a=some (.frz o u)
theorem Rd.of {H:Hp} {a:Addr} {u:HO} (h:H a=some u):Rd H a u := .inl h
theorem Rd.ok {P:Program} {w:World} {H:Hp} {h:Heap} {a:Addr} {u:HO} (r:Rd H a u) (x:HOk P w H h):zc1 P w H h a u:=by
 rcases r with r | ⟨o,r⟩
 ·exact x a u r
 ·obtain ⟨_,q⟩:=x a _ r
  exact q
def Mut:Option HO→Prop
 | some (.lst _)=>True
 | some (.dK _)=>True
 | some (.dT _)=>True
 | some (.set _ _)=>True
 | some (.ins _ _ _)=>True
 | some (.ext _)=>True
 | _=>False
section
variable {P:Program} {w:World} {H:Hp} {h h':Heap} {x e:Addr} {o':HO}
theorem HOk.write (ok:HOk P w H h) (mu:Mut (H x)) (he:e=x∨H e=some (.own x)) (k:∀ b u,b ≠ e→h.get? b=some u→h'.get? b=some u) (heo:∃ u,h'.get? e=some u)
  (new:zc1 P w (upd H x o') h' x o'):HOk P w (upd H x o') h':=fun b u q=>by
 have nown:∀ c y,H c=some (.own y)→c ≠ x:=fun c y r z=>by subst z;rw [r] at mu;exact mu
 have ntup:∀ c xs,H c=some (.tup xs)→c ≠ x:=fun c xs r z=>by subst z;rw [r] at mu;exact mu
 by_cases hb:b=x
 ·subst hb;rw [zaI] at q;cases q;exact new
 ·rw [zat hb] at q
  by_cases hbe:b=e
  ·have q':H b=some (.own x):=by
    rcases he with z | z
    ·exact absurd (hbe.trans z) hb
    ·rw [hbe];exact z
   rw [q] at q';cases q'
   obtain ⟨v,hv⟩:=heo
   exact ⟨v,by rw [hbe];exact hv⟩
  ·refine (ok b u q).stay (fun c v hc r=>k c v ?_ r) (fun c r=>by rw [zat (nown c b r)];exact r) fun c xs r=>by rw [zat (ntup c xs r)];exact r
   rcases hc with rfl | hc
   ·exact hbe
   ·rintro rfl
    rcases he with z | z
    ·exact nown c b hc z
    ·rw [hc] at z;cases z;exact hb rfl
end
structure Un (fs ex:List Addr) (H H':Hp) (h h':Heap):Prop where
 keep:∀ b o,h.get? b=some o→H b=none→b ∉ fs→b ∉ ex→h'.get? b=some o
 slot:∀ b o,h.get? b=some o→H b=none→b ∈ fs→b ∉ ex→∃ sl,h'.get? b=some { o with slots:=sl }
 free:∀ b o,h.get? b=some o→H b=none→b ∉ ex→H' b=none
 there:∀ b o,h.get? b=some o→b ∉ ex→∃ o',h'.get? b=some o'
 tups:∀ b xs,H b=some (.tup xs)→H' b=some (.tup xs)
 frzs:∀ b o u,H b=some (.frz o u)→H' b=some (.frz o u)
 tbls:∀ b ps,H b=some (.tbl ps)→∃ more,H' b=some (.tbl (ps ++ more))
section
variable {fs fs' ex ex':List Addr} {H H1 H2:Hp} {h h1 h2 h':Heap} {a x e:Addr} {o:HO}
theorem Un.any (u:Un fs ex H H1 h h1) {b:Addr} {ob:Obj} (q:h.get? b=some ob) (n:H b=none) (hx:b ∉ ex):∃ sl,h1.get? b=some { ob with slots:=sl }:=by
 by_cases hb:b ∈ fs
 ·exact u.slot b ob q n hb hx
 ·exact ⟨ob.slots,u.keep b ob q n hb hx⟩
theorem Un.trans (a:Un fs ex H H1 h h1) (b:Un fs ex H1 H2 h1 h2):Un fs ex H H2 h h2 where
 keep:=fun c ob q n hc hx=>b.keep c ob (a.keep c ob q n hc hx) (a.free c ob q n hx) hc hx
 slot:=fun c ob q n hc hx=>by
  obtain ⟨sl,e1⟩:=a.slot c ob q n hc hx
  obtain ⟨sl',e2⟩:=b.slot c _ e1 (a.free c ob q n hx) hc hx
  exact ⟨sl',e2⟩
 free:=fun c ob q n hx=>by
  obtain ⟨o',e1⟩:=a.there c ob q hx
  exact b.free c o' e1 (a.free c ob q n hx) hx
 there:=fun c ob q hx=>by
  obtain ⟨o',e1⟩:=a.there c ob q hx
  exact b.there c o' e1 hx
 tups:=fun c xs q=>b.tups c xs (a.tups c xs q)
 frzs:=fun c ob xs q=>b.frzs c ob xs (a.frzs c ob xs q)
 tbls:=fun c ps q=>by
  obtain ⟨m1,e1⟩:=a.tbls c ps q
  obtain ⟨m2,e2⟩:=b.tbls c _ e1
  exact ⟨m1 ++ m2,by rw [e2,Array.append_assoc]⟩
theorem Un.kept (k:∀ b u,h.get? b=some u→h'.get? b=some u):Un fs ex H H h h' :=
 ⟨fun b ob q _ _ _=>k b ob q,fun b ob q _ _ _=>⟨ob.slots,k b ob q⟩,fun _ _ _ n _=>n,fun b ob q _=>⟨ob,k b ob q⟩,fun _ _ q=>q,fun _ _ _ q=>q,fun _ ps q=>⟨#[],by rw [q];simp⟩⟩
theorem Un.refl:Un fs ex H H h h:=Un.kept fun _ _ q=>q
theorem Un.laid (k:∀ b u,h.get? b=some u→h'.get? b=some u) (hp:h.objs.size ≤ a) (hn:H a=none):Un fs ex H (upd H a o) h h' where
 keep:=fun b u q _ _ _=>k b u q
 slot:=fun b u q _ _ _=>⟨u.slots,k b u q⟩
 free:=fun b u q n _=>by rw [zat (Nat.ne_of_lt (Nat.lt_of_lt_of_le (Heap.lt_size q) hp))];exact n
 there:=fun b u q _=>⟨u,k b u q⟩
 tups:=fun b xs q=>by rw [zat (zaW q hn)];exact q
 frzs:=fun b u xs q=>by rw [zat (zaW q hn)];exact q
 tbls:=fun b ps q=>⟨#[],by rw [zat (zaW q hn),q];simp⟩
theorem Un.write (mu:Mut (H x)) (he:e=x∨H e=some (.own x)) (k:∀ b u,b ≠ e→h.get? b=some u→h'.get? b=some u) (heo:∃ u,h'.get? e=some u):Un fs ex H (upd H x o) h h':=by
 have hx:∀ b,H b=none→b ≠ x:=fun b n z=>by subst z;rw [n] at mu;exact mu
 have hb:∀ b,H b=none→b ≠ e:=fun b n z=>by
  subst z
  rcases he with r | r
  ·exact hx b n r
  ·rw [n] at r;cases r
 have hm:∀ b u,H b=some u→¬ Mut (some u)→b ≠ x:=fun b u q nm z=>by subst z;rw [q] at mu;exact nm mu
 refine ⟨fun b u q n _ _=>k b u (hb b n) q,fun b u q n _ _=>⟨u.slots,k b u (hb b n) q⟩,fun b u q n _=>by rw [zat (hx b n)];exact n,fun b u q _=>?_,
  fun b xs q=>by rw [zat (hm b _ q fun z=>z)];exact q,fun b u xs q=>by rw [zat (hm b _ q fun z=>z)];exact q,fun b ps q=>⟨#[],by rw [zat (hm b _ q fun z=>z),q];simp⟩⟩
 by_cases hbe:b=e
 ·subst hbe;exact heo
 ·exact ⟨u,k b u hbe q⟩
theorem Un.mono (u:Un fs ex H H1 h h1) (hs:∀ b ∈ fs,b ∈ fs') (hx:∀ b ∈ ex,b ∈ ex'):Un fs' ex' H H1 h h1 :=
 ⟨fun b ob q n hb he=>u.keep b ob q n (fun z=>hb (hs b z)) fun z=>he (hx b z),fun _ _ q n _ he=>u.any q n fun z=>he (hx _ z),fun b ob q n he=>u.free b ob q n fun z=>he (hx b z),fun b ob q he=>u.there b ob q fun z=>he (hx b z),u.tups,u.frzs,u.tbls⟩
end
def trk (h:Heap) (H:Hp):List Addr:=(List.range h.objs.size).filter fun a=>(H a).isSome
def hidT (h:Heap) (H:Hp):Heap:=PySem.W.hideAll h (trk h H)
theorem zpM (h:Heap) (H:Hp):(hidT h H).objs.size=h.objs.size:=PySem.W.hideAll_size _ _
theorem zrH {h:Heap} {H:Hp} {b:Addr} {o:Obj} (e:h.get? b=some o) (n:H b=none):(hidT h H).get? b=some o :=
 PySem.W.hideAll_get _ e fun hm=>by
  have q:(H b).isSome=true:=(List.mem_filter.mp hm).2
  rw [n] at q;simp at q
theorem zsv {h:Heap} {H:Hp} {b:Addr} {o:Obj} (e:(hidT h H).get? b=some o):h.get? b=some o∧H b=none:=by
 have e':h.get? b=some o:=PySem.W.of_hideAll (trk h H) e
 refine ⟨e',?_⟩
 cases q:H b with
 | none=>rfl
 | some x =>
  have hm:b ∈ trk h H:=List.mem_filter.mpr ⟨List.mem_range.mpr (Heap.lt_size e'),by simp [q]⟩
  have z:(hidT h H).get? b=none:=PySem.W.hideAll_none (trk h H) hm
  rw [z] at e;cases e
def ztB (g h:Heap) (L:Addr):List (Addr × Obj):=(List.range h.objs.size).filterMap fun a=>if a=L∨(g.get? a).isSome=true then none else (h.get? a).map fun o=>(a,o)
def rest (g h:Heap) (L d:Addr):List (Addr × Obj):=(ztB g h L).filter fun p=>decide (p.1 ≠ d)
end L2
namespace L2
open PySem PySem.Spec PyProof.Rows
structure Mod (K:PySem.W.Frag) (mg:Str→Option Value) (base:Heap):Prop where
 kin:K.In base
 glob:base.Ns mainGlobals mg
 blt:∃ mb,base.Ns builtinsNs mb∧∀ x:Str,x ≠ "__name__"→mb x=bootBuiltins x
 nolimit:base.NoLimit
structure Cx where
 prog:Program
 w:World
 K:PySem.W.Frag
 mg:Str→Option Value
 base:Heap
 A:Around
 N:List Str
 s₀:Shared
 H₀:Hp
 env:Env
 outer:List Env
 stack:List Env
 ex:List Addr
 fn:Str→Bool
 calm:Bool
 pn:List (Addr × Obj)
 xe:Value→Shared→Prop
def frs (l:List Env):List Addr:=l.filterMap (·.frame)
abbrev Cx.fs (X:Cx):List Addr:=frs X.outer
def Vis (sc:Scope) (x:Str):Prop:=sc.names.lookup x=some .local∨sc.names.lookup x=some .cell∨sc.names.lookup x=some .free
def Loc (sc:Scope) (x:Str):Prop:=sc.names.lookup x=some .local∨sc.names.lookup x=some .cell
def Look (env:Env) (h:Heap) (m:Str→Option Value) (x:Str) (u:Value):Prop :=
 (env.kindOf x=some .local∧m x=some u)∨((env.kindOf x=some .cell∨env.kindOf x=some .free)∧∃ c,env.cells.lookup x=some c∧h.IsCell c (some u))
structure Cx.Ok (X:Cx):Prop where
 mod:Mod X.K X.mg X.base
 kind:X.env.scope.kind = .function
 glob:X.env.globals=mainGlobals
 blt:X.env.builtins=builtinsNs
 above:X.s₀.heap.objs.size ≤ X.env.locals
 inj:∀ x y c,X.env.cells.lookup x=some c→X.env.cells.lookup y=some c→x=y
 has:∀ x,(X.env.kindOf x=some .cell∨X.env.kindOf x=some .free)→∃ c,X.env.cells.lookup x=some c
 cab:∀ x c,X.fn x=true→X.env.cells.lookup x=some c→X.s₀.heap.objs.size ≤ c
 hd:X.calm=true→X.A.handled=none
 frames:X.A.frames=some X.stack
 stk:X.stack=X.outer∨(X.stack=X.env :: X.outer∧X.env.frame=some X.env.locals)
 exf:∀ b ∈ X.ex,b ≠ X.env.locals∧∀ x c,X.env.cells.lookup x=some c→c ≠ b
 bs:∀ b o,X.base.get? b=some o→X.s₀.heap.get? b=some o∧X.H₀ b=none
 bsz:X.base.objs.size ≤ X.s₀.heap.objs.size
 noex:∀ b o,X.base.get? b=some o→b ∉ X.ex
 exfs:∀ b ∈ X.ex,b ∉ X.fs
 funs:X.s₀.heap.FunFrames X.base X.outer
 frf:∀ b ∈ X.fs,X.H₀ b=none
structure Inv (X:Cx) (pins:List (Addr × Obj)) (σ:List (Option V)) (H:Hp) (s:Shared):Prop where
 ok:X.Ok
 os:s.os=X.s₀.os
 bare:AllBare s.gens
 base:Un X.fs X.ex X.H₀ H X.s₀.heap s.heap
 loc:∃ m,s.heap.Ns X.env.locals m∧∀ (i:Nat) (x:Str) (v:V),X.N[i]? = some x→σ[i]? = some (some v)→Vis X.env.scope x→∃ u,RelV v u∧Look X.env s.heap m x u
 cell:∀ x c,X.env.cells.lookup x=some c→∃ v,s.heap.IsCell c v
 free:H X.env.locals=none
 freeC:∀ x c,X.env.cells.lookup x=some c→H c=none
 pin:∀ p ∈ X.pn ++ pins,s.heap.get? p.1=some p.2∧H p.1=none∧p.1 ≠ X.env.locals∧p.1 ∉ X.fs∧∀ v,p.2.data ≠ .cell v
 hok:HOk X.prog X.w H s.heap
 len:σ.length=X.N.length
section
variable {X:Cx} {pins:List (Addr × Obj)} {σ:List (Option V)} {H H':Hp} {s:Shared} {h':Heap}
theorem Cx.Ok.nofr (ok:X.Ok) {b:Addr} {o:Obj} (e:X.base.get? b=some o):b ∉ X.fs:=fun hb=>by
 have:=(ok.funs.mem hb).1
 rw [e] at this;cases this
theorem Inv.bs (I:Inv X pins σ H s):∀ b o,X.base.get? b=some o→s.heap.get? b=some o∧H b=none:=fun b o e =>
 ⟨I.base.keep b o (I.ok.bs b o e).1 (I.ok.bs b o e).2 (I.ok.nofr e) (I.ok.noex b o e),I.base.free b o (I.ok.bs b o e).1 (I.ok.bs b o e).2 (I.ok.noex b o e)⟩
theorem Inv.bk (I:Inv X pins σ H s):∀ b o,X.base.get? b=some o→s.heap.get? b=some o:=fun b o e=>(I.bs b o e).1
theorem Inv.mod (I:Inv X pins σ H s):Mod X.K X.mg X.base:=I.ok.mod
theorem Inv.kIn (I:Inv X pins σ H s):X.K.In s.heap:=I.ok.mod.kin.keeps I.bk
theorem Inv.nolimit (I:Inv X pins σ H s):s.heap.NoLimit:=I.ok.mod.nolimit.keeps I.bk
theorem Inv.lt (I:Inv X pins σ H s):X.env.locals < s.heap.objs.size:=let ⟨_,hn,_⟩:=I.loc;hn.lt
theorem Inv.sz (I:Inv X pins σ H s):X.s₀.heap.objs.size ≤ s.heap.objs.size:=Nat.le_trans I.ok.above (Nat.le_of_lt I.lt)
theorem Inv.nofs (I:Inv X pins σ H s) {a:Addr} (h:s.heap.objs.size ≤ a):a ∉ X.fs:=fun hb=>by
 obtain ⟨_,o,ho,_⟩:=I.ok.funs.mem hb
 exact absurd (Nat.lt_of_lt_of_le (Heap.lt_size ho) (Nat.le_trans I.sz h)) (Nat.lt_irrefl _)
theorem Inv.cne (I:Inv X pins σ H s):∀ x c,X.env.cells.lookup x=some c→c ≠ X.env.locals:=fun x c e z=>by
 obtain ⟨v,o,ho,hd⟩:=I.cell x c e
 obtain ⟨m,⟨o',es,ep,ho',hd',_⟩,_⟩:=I.loc
 rw [z,ho'] at ho;cases ho;rw [hd'] at hd;cases hd
theorem Inv.funs (I:Inv X pins σ H s):s.heap.FunFrames X.base X.outer:=by
 have all:∀ (l:List Env),(∀ b ∈ frs l,b ∈ X.fs)→X.s₀.heap.FunFrames X.base l→s.heap.FunFrames X.base l:=by
  intro l
  induction l with
  | nil=>intro _ _;trivial
  | cons env r ih =>
   intro hs hl
   obtain ⟨hk,⟨L,o,hf,hn,ho,hd⟩,hr⟩:=hl
   have hL:L ∈ X.fs:=hs L (by unfold frs;rw [List.filterMap_cons,hf];exact List.mem_cons_self)
   obtain ⟨sl,e⟩:=I.base.slot L o ho (I.ok.frf L hL) hL fun z=>I.ok.exfs L z hL
   exact ⟨hk,⟨L,_,hf,hn,e,hd⟩,ih (fun b hb=>hs b (by unfold frs;rw [List.filterMap_cons,hf];exact List.mem_cons_of_mem _ hb)) hr⟩
 exact all X.outer (fun _ hb=>hb) I.ok.funs
theorem Inv.stack (I:Inv X pins σ H s):s.heap.FunFrames X.base X.stack:=by
 rcases I.ok.stk with e | ⟨e,hf⟩
 ·rw [e];exact I.funs
 ·rw [e]
  obtain ⟨m,hn,_⟩:=I.loc
  refine .cons (by rw [I.ok.kind];decide) hf hn ?_ I.funs
  exact Heap.get?_none_of_le (Nat.le_trans I.ok.bsz I.ok.above)
theorem Inv.zjD (I:Inv X pins σ H s):∀ b ∈ frs X.stack,b ∈ X.env.locals :: X.fs:=fun b hb=>by
 rcases I.ok.stk with e | ⟨e,hf⟩
 ·rw [e] at hb;exact List.mem_cons_of_mem _ hb
 ·rw [e] at hb
  unfold frs at hb
  rw [List.filterMap_cons,hf] at hb
  exact hb
theorem Inv.zmz (I:Inv X pins σ H s):∀ b ∈ frs X.stack,H b=none:=fun b hb=>by
 rcases List.mem_cons.mp (I.zjD b hb) with e | hb
 ·rw [e];exact I.free
 ·obtain ⟨_,o,ho,_⟩:=I.ok.funs.mem hb
  exact I.base.free b o ho (I.ok.frf b hb) fun z=>I.ok.exfs b z hb
theorem Inv.step {g':Array GenState} {t':Nat} {d':Drawn} {ch:List Addr} (I:Inv X pins σ H s)
  (hch:∀ b ∈ ch,(b ∈ X.ex∨X.s₀.heap.objs.size ≤ b)∧b ≠ X.env.locals∧(∀ x c,X.env.cells.lookup x=some c→c ≠ b)∧∀ p ∈ X.pn ++ pins,p.1 ≠ b)
  (keep:∀ b o,b ≠ X.env.locals→b ∉ X.fs→b ∉ ch→s.heap.get? b=some o→H b=none→h'.get? b=some o)
  (slot:∀ b o,b ≠ X.env.locals→b ∈ X.fs→b ∉ ch→s.heap.get? b=some o→H b=none→∃ sl,h'.get? b=some { o with slots:=sl }) (free:∀ b o,b ∉ ch→s.heap.get? b=some o→H b=none→H' b=none)
  (there:∀ b o,b ∉ ch→s.heap.get? b=some o→∃ o',h'.get? b=some o')
  (tups:∀ b xs,H b=some (.tup xs)→H' b=some (.tup xs)) (frzs:∀ b o u,H b=some (.frz o u)→H' b=some (.frz o u)) (tbls:∀ b ps,H b=some (.tbl ps)→∃ more,H' b=some (.tbl (ps ++ more)))
  (ns:∀ m,s.heap.Ns X.env.locals m→h'.Ns X.env.locals m) (hok:HOk X.prog X.w H' h') (hg:AllBare g') :
  Inv X pins σ H' { s with heap:=h',gens:=g',drawn:=d',toks:=t' }:=by
 have neL:∀ b o,X.s₀.heap.get? b=some o→b ≠ X.env.locals:=fun b o e=>Nat.ne_of_lt (Nat.lt_of_lt_of_le (Heap.lt_size e) I.ok.above)
 have neC:∀ b o,X.s₀.heap.get? b=some o→b ∉ X.ex→b ∉ ch:=fun b o e hx hb=>by
  rcases (hch b hb).1 with z | z
  ·exact hx z
  ·exact absurd (Nat.lt_of_lt_of_le (Heap.lt_size e) z) (Nat.lt_irrefl _)
 have cellK:∀ x c,X.env.cells.lookup x=some c→∀ v,s.heap.IsCell c v→h'.IsCell c v:=fun x c e v ⟨o,ho,hd⟩=>by
  have nch:c ∉ ch:=fun z=>(hch c z).2.2.1 x c e rfl
  by_cases hc:c ∈ X.fs
  ·obtain ⟨sl,q⟩:=slot c o (I.cne x c e) hc nch ho (I.freeC x c e)
   exact ⟨_,q,hd⟩
  ·exact ⟨o,keep c o (I.cne x c e) hc nch ho (I.freeC x c e),hd⟩
 refine ⟨I.ok,I.os,hg,⟨fun b o e n hb hx=>?_,fun b o e n hb hx=>?_,fun b o e n hx=>?_,fun b o e hx=>?_,fun b xs e=>tups b xs (I.base.tups b xs e),fun b o xs e=>frzs b o xs (I.base.frzs b o xs e),fun b ps e=>?_⟩,?_,fun x c e=>?_,?_,fun x c e=>?_,fun p hp=>?_,hok,I.len⟩
 ·exact keep b o (neL b o e) hb (neC b o e hx) (I.base.keep b o e n hb hx) (I.base.free b o e n hx)
 ·obtain ⟨sl,e1⟩:=I.base.slot b o e n hb hx
  obtain ⟨sl',e2⟩:=slot b _ (neL b o e) hb (neC b o e hx) e1 (I.base.free b o e n hx)
  exact ⟨sl',e2⟩
 ·obtain ⟨o',e1⟩:=I.base.there b o e hx
  exact free b o' (neC b o e hx) e1 (I.base.free b o e n hx)
 ·obtain ⟨o',e1⟩:=I.base.there b o e hx
  exact there b o' (neC b o e hx) e1
 ·obtain ⟨m1,e1⟩:=I.base.tbls b ps e
  obtain ⟨m2,e2⟩:=tbls b _ e1
  exact ⟨m1 ++ m2,by rw [e2,Array.append_assoc]⟩
 ·obtain ⟨m,hn,hl⟩:=I.loc
  refine ⟨m,ns m hn,fun i x v e1 e2 e3=>?_⟩
  obtain ⟨u,r,l⟩:=hl i x v e1 e2 e3
  refine ⟨u,r,?_⟩
  rcases l with l | ⟨k,c,e,z⟩
  ·exact .inl l
  ·exact .inr ⟨k,c,e,cellK x c e _ z⟩
 ·obtain ⟨v,z⟩:=I.cell x c e
  exact ⟨v,cellK x c e v z⟩
 ·obtain ⟨m,⟨o,_,_,ho,_⟩,_⟩:=I.loc
  exact free _ o (fun z=>(hch _ z).2.1 rfl) ho I.free
 ·obtain ⟨v,o,ho,hd⟩:=I.cell x c e
  exact free c o (fun z=>(hch c z).2.2.1 x c e rfl) ho (I.freeC x c e)
 ·obtain ⟨e,n,ne,nf,d⟩:=I.pin p hp
  have nch:p.1 ∉ ch:=fun z=>(hch p.1 z).2.2.2 p hp rfl
  exact ⟨keep p.1 p.2 ne nf nch e n,free p.1 p.2 nch e n,ne,nf,d⟩
theorem Inv.un {t':Nat} (I:Inv X pins σ H s) (u:Un X.fs [] H H' s.heap h') (hok:HOk X.prog X.w H' h'):Inv X pins σ H' { s with heap:=h',toks:=t' }:=by
 obtain ⟨m,⟨o,es,ep,ho,r⟩,_⟩:=id I.loc
 obtain ⟨sl,hL⟩:=u.any ho I.free (by simp)
 exact I.step (g':=s.gens) (d':=s.drawn) (ch:=[]) (fun _ z=>nomatch z) (fun b o _ hb _ e n=>u.keep b o e n hb (by simp)) (fun b o _ hb _ e n=>u.slot b o e n hb (by simp)) (fun b o _ e n=>u.free b o e n (by simp)) (fun b o _ e=>u.there b o e (by simp)) u.tups u.frzs u.tbls (fun m' hm=>by
  obtain ⟨o',es',ep',ho',r'⟩:=hm
  rw [ho] at ho';cases ho'
  exact ⟨_,es',ep',hL,r'⟩) hok I.bare
theorem Inv.call {g':Array GenState} {t':Nat} {d':Drawn} {ch:List Addr} (I:Inv X pins σ H s) (u:Un (frs X.stack) ch H H' s.heap h') (hok:HOk X.prog X.w H' h') (hg:AllBare g')
  (hch:∀ b ∈ ch,(b ∈ X.ex∨X.s₀.heap.objs.size ≤ b)∧b ≠ X.env.locals∧(∀ x c,X.env.cells.lookup x=some c→c ≠ b)∧∀ p ∈ X.pn ++ pins,p.1 ≠ b) :
  Inv X pins σ H' { s with heap:=h',gens:=g',drawn:=d',toks:=t' }:=by
 obtain ⟨m,⟨o,es,ep,ho,r⟩,_⟩:=id I.loc
 obtain ⟨sl,hL⟩:=u.any ho I.free fun z=>(hch _ z).2.1 rfl
 exact I.step (ch:=ch) hch (fun b o hL hb hc e n=>u.keep b o e n (fun z=>(List.mem_cons.mp (I.zjD b z)).elim hL hb) hc) (fun b o _ _ hc e n=>u.any e n hc) (fun b o hc e n=>u.free b o e n hc) (fun b o hc e=>u.there b o e hc) u.tups u.frzs u.tbls (fun m' hm=>by
  obtain ⟨o',es',ep',ho',r'⟩:=hm
  rw [ho] at ho';cases ho'
  exact ⟨_,es',ep',hL,r'⟩) hok hg
theorem Inv.turned {t':Nat} {it:Addr} (I:Inv X pins σ H s) (k:∀ b o,b ≠ it→s.heap.get? b=some o→h'.get? b=some o) (hn:H it=none) (hL:it ≠ X.env.locals)
  (h1:it ∈ X.ex∨X.s₀.heap.objs.size ≤ it) (h2:∀ x c,X.env.cells.lookup x=some c→c ≠ it) (h3:∀ p ∈ X.pn ++ pins,p.1 ≠ it):Inv X pins σ H { s with heap:=h',toks:=t' }:=by
 have nit:∀ b u,H b=some u→b ≠ it:=fun b u e z=>by rw [z,hn] at e;cases e
 refine I.step (g':=s.gens) (d':=s.drawn) (ch:=[it]) (fun b hb=>?_) (fun b o _ _ hc e _=>k b o (fun z=>hc (by simp [z])) e) (fun b o _ _ hc e _=>⟨o.slots,k b o (fun z=>hc (by simp [z])) e⟩) (fun _ _ _ _ n=>n)
  (fun b o hc e=>⟨o,k b o (fun z=>hc (by simp [z])) e⟩) (fun _ _ e=>e) (fun _ _ _ e=>e) (fun b ps e=>⟨#[],by rw [e];simp⟩) (fun m hm=>?_) (fun b u e=>?_) I.bare
 ·have e:b=it:=by simpa using hb
  subst e
  exact ⟨h1,hL,h2,h3⟩
 ·obtain ⟨o,es,ep,ho,r⟩:=hm
  exact ⟨o,es,ep,k _ o (Ne.symm hL) ho,r⟩
 ·refine (I.hok b u e).stay (fun c v hc q=>k c v ?_ q) (fun _ q=>q) fun _ _ q=>q
  rcases hc with z | z
  ·rw [z];exact nit b u e
  ·exact nit c _ z
theorem Inv.tok (I:Inv X pins σ H s) (t:Nat):Inv X pins σ H { s with toks:=t }:=I.un (h':=s.heap) (t':=t) Un.refl I.hok
theorem Inv.kept {t':Nat} (I:Inv X pins σ H s) (k:∀ b u,s.heap.get? b=some u→h'.get? b=some u):Inv X pins σ H { s with heap:=h',toks:=t' }:=I.un (Un.kept k) (I.hok.kept k)
theorem Inv.laid {a:Addr} {o:HO} {t':Nat} (I:Inv X pins σ H s) (k:∀ b u,s.heap.get? b=some u→h'.get? b=some u) (hp:s.heap.objs.size ≤ a) (new:zc1 X.prog X.w (upd H a o) h' a o) :
  Inv X pins σ (upd H a o) { s with heap:=h',toks:=t' }:=I.un (Un.laid k hp (I.hok.fresh hp)) (I.hok.laid k hp new)
theorem Inv.write {x e:Addr} {o:HO} {t':Nat} (I:Inv X pins σ H s) (mu:Mut (H x)) (he:e=x∨H e=some (.own x)) (k:∀ b u,b ≠ e→s.heap.get? b=some u→h'.get? b=some u) (heo:∃ u,h'.get? e=some u)
  (new:zc1 X.prog X.w (upd H x o) h' x o):Inv X pins σ (upd H x o) { s with heap:=h',toks:=t' }:=I.un (Un.write mu he k heo) (I.hok.write mu he k heo new)
theorem Inv.zmT {pins':List (Addr × Obj)} (I:Inv X pins σ H s) (h:∀ p ∈ pins',s.heap.get? p.1=some p.2∧H p.1=none∧p.1 ≠ X.env.locals∧p.1 ∉ X.fs∧∀ v,p.2.data ≠ .cell v):Inv X pins' σ H s :=
 ⟨I.ok,I.os,I.bare,I.base,I.loc,I.cell,I.free,I.freeC,fun p hp=>(List.mem_append.mp hp).elim (fun z=>I.pin p (List.mem_append_left _ z)) (h p),I.hok,I.len⟩
theorem zkK {N:List Str} (hN:N.Nodup) {i j:Nat} {x:Str} (a:N[i]? = some x) (b:N[j]? = some x):i=j:=by
 obtain ⟨h1,e1⟩:=List.getElem?_eq_some_iff.mp a
 obtain ⟨h2,e2⟩:=List.getElem?_eq_some_iff.mp b
 exact (List.getElem_inj hN).mp (e1.trans e2.symm)
theorem zpL {M:Model} {A:Around} {E:Value→Shared→Prop} {i:Nat} {x:Str} {v:V} {u:Value} {Q:Unit→Shared→Prop} (I:Inv X pins σ H s) (hN:X.N.Nodup) (hi:X.N[i]? = some x) (hx:Loc X.env.scope x) (r:RelV v u)
  (h:∀ s',Inv X pins (σ.set i (some v)) H s'→(∃ a,Heap.SameBut a s.heap s'.heap∧(a=X.env.locals∨X.env.cells.lookup x=some a))→Q () s') (hf:X.fn x=true∨X.env.scope.names.lookup x=some .local:=by first | exact .inl rfl | exact .inr rfl | assumption):wpAny M A (storeName X.env x u) Q E s:=by
 obtain ⟨m,hn,hl⟩:=id I.loc
 have hcls:(X.env.scope.kind == .class || (X.env.scope.kind == .module && X.env.locals != X.env.globals))=false:=by rw [I.ok.kind];rfl
 have hiσ:i < σ.length:=by rw [I.len];exact (List.getElem?_eq_some_iff.mp hi).1
 have cne:=I.cne
 have tracked:∀ {a:Addr} {h':Heap},(∃ o,s.heap.get? a=some o∧H a=none)→Heap.SameBut a s.heap h'→HOk X.prog X.w H h':=fun {a h'} ha hs b ob e=>by
  obtain ⟨_,_,hfree⟩:=ha
  refine (I.hok b ob e).stay (fun c w' hc q=>(hs.2 c ?_).trans q) (fun _ q=>q) fun _ _ q=>q
  rintro rfl
  rcases hc with rfl | hc
  ·rw [hfree] at e;cases e
  ·rw [hfree] at hc;cases hc
 rcases hx with hk | hk
 ·refine wpAny_storeName_local hk hn (fun h' hn' hs=>?_) hcls
  obtain ⟨oL,_,_,hoL,_⟩:=id hn
  refine h _ ⟨I.ok,I.os,I.bare,⟨fun b o e n hb hx=>?_,fun b o e n hb hx=>?_,I.base.free,fun b o e hx=>?_,I.base.tups,I.base.frzs,I.base.tbls⟩,⟨_,hn',fun j y v' e1 e2 e3=>?_⟩,fun y c e=>?_,I.free,I.freeC,fun p hp=>?_,tracked ⟨oL,hoL,I.free⟩ hs,by simpa using I.len⟩ ⟨_,hs, .inl rfl⟩
  ·exact (hs.2 b (Nat.ne_of_lt (Nat.lt_of_lt_of_le (Heap.lt_size e) I.ok.above))).trans (I.base.keep b o e n hb hx)
  ·obtain ⟨sl,e1⟩:=I.base.slot b o e n hb hx
   exact ⟨sl,(hs.2 b (Nat.ne_of_lt (Nat.lt_of_lt_of_le (Heap.lt_size e) I.ok.above))).trans e1⟩
  ·obtain ⟨o',e1⟩:=I.base.there b o e hx
   exact ⟨o',(hs.2 b (Nat.ne_of_lt (Nat.lt_of_lt_of_le (Heap.lt_size e) I.ok.above))).trans e1⟩
  ·by_cases hj:j=i
   ·subst hj
    rw [hi] at e1;cases e1
    rw [List.getElem?_set_self hiσ] at e2
    cases e2
    exact ⟨u,r, .inl ⟨hk,by simp⟩⟩
   ·rw [List.getElem?_set_ne (Ne.symm hj)] at e2
    obtain ⟨u',r',q⟩:=hl j y v' e1 e2 e3
    refine ⟨u',r',?_⟩
    rcases q with ⟨k,e⟩ | ⟨k,c,e,z⟩
    ·refine .inl ⟨k,?_⟩
     have:y ≠ x:=fun e=>hj (zkK hN e1 (e ▸ hi))
     simp [this,e]
    ·exact .inr ⟨k,c,e,z.sameBut hs (cne y c e)⟩
  ·obtain ⟨w',z⟩:=I.cell y c e
   exact ⟨w',z.sameBut hs (cne y c e)⟩
  ·obtain ⟨e,n,ne,nf,d⟩:=I.pin p hp
   exact ⟨(hs.2 p.1 ne).trans e,n,ne,nf,d⟩
 ·have hfn:X.fn x=true:=by
   rcases hf with z | z
   ·exact z
   ·rw [z] at hk;cases hk
  obtain ⟨c,hc⟩:=I.ok.has x (.inl hk)
  obtain ⟨w',z⟩:=I.cell x c hc
  refine wpAny_storeName_cell I.ok.kind hk hc z (fun h' hc' hs=>?_)
  obtain ⟨oc,hoc,hocd⟩:=id z
  refine h { s with heap:=h' } ⟨I.ok,I.os,I.bare,⟨fun b o e n hb hx=>?_,fun b o e n hb hx=>?_,I.base.free,fun b o e hx=>?_,I.base.tups,I.base.frzs,I.base.tbls⟩,⟨m,hn.sameBut hs (Ne.symm (cne x c hc)),fun j y v' e1 e2 e3=>?_⟩,fun y c' e=>?_,I.free,I.freeC,fun p hp=>?_,tracked ⟨oc,hoc,I.freeC x c hc⟩ hs,by simpa using I.len⟩ ⟨c,hs, .inr hc⟩
  ·exact (hs.2 b (Nat.ne_of_lt (Nat.lt_of_lt_of_le (Heap.lt_size e) (I.ok.cab x c hfn hc)))).trans (I.base.keep b o e n hb hx)
  ·obtain ⟨sl,e1⟩:=I.base.slot b o e n hb hx
   exact ⟨sl,(hs.2 b (Nat.ne_of_lt (Nat.lt_of_lt_of_le (Heap.lt_size e) (I.ok.cab x c hfn hc)))).trans e1⟩
  ·obtain ⟨o',e1⟩:=I.base.there b o e hx
   exact ⟨o',(hs.2 b (Nat.ne_of_lt (Nat.lt_of_lt_of_le (Heap.lt_size e) (I.ok.cab x c hfn hc)))).trans e1⟩
  ·by_cases hj:j=i
   ·subst hj
    rw [hi] at e1;cases e1
    rw [List.getElem?_set_self hiσ] at e2
    cases e2
    exact ⟨u,r, .inr ⟨.inl hk,c,hc,hc'⟩⟩
   ·rw [List.getElem?_set_ne (Ne.symm hj)] at e2
    obtain ⟨u',r',q⟩:=hl j y v' e1 e2 e3
    refine ⟨u',r',?_⟩
    rcases q with q | ⟨k,c',e,z'⟩
    ·exact .inl q
    ·refine .inr ⟨k,c',e,z'.sameBut hs ?_⟩
     rintro rfl
     exact hj (zkK hN e1 (I.ok.inj _ _ _ e hc ▸ hi))
  ·by_cases hcc:c'=c
   ·subst hcc;exact ⟨_,hc'⟩
   ·obtain ⟨w2,z2⟩:=I.cell y c' e
    exact ⟨w2,z2.sameBut hs hcc⟩
  ·obtain ⟨e,n,ne,nf,d⟩:=I.pin p hp
   refine ⟨(hs.2 p.1 ?_).trans e,n,ne,nf,d⟩
   intro q
   rw [q,hoc] at e
   have q':oc=p.2:=Option.some.inj e
   exact d w' (by rw [← q'];exact hocd)
theorem zig {M:Model} {A:Around} {E:Value→Shared→Prop} {i:Nat} {x:Str} {v:V} {u:Value} {Q:Unit→Shared→Prop} (I:Inv X pins σ H s) (hN:X.N.Nodup) (hi:X.N[i]? = some x) (hx:Loc X.env.scope x) (r:RelV v u)
  (h:∀ s',Inv X pins (σ.set i (some v)) H s'→Q () s') (hf:X.fn x=true∨X.env.scope.names.lookup x=some .local:=by first | exact .inl rfl | exact .inr rfl | assumption):wpAny M A (storeName X.env x u) Q E s :=
 zpL I hN hi hx r (fun s' I' _=>h s' I') hf
theorem Inv.zsQ {s':Shared} {ch:List Addr} (I:Inv X pins σ H s) (ho:s'.os=s.os) (u:Un (frs X.stack) ch H H' s.heap s'.heap) (hok:HOk X.prog X.w H' s'.heap) (hg:AllBare s'.gens)
  (hch:∀ b ∈ ch,(b ∈ X.ex∨X.s₀.heap.objs.size ≤ b)∧b ≠ X.env.locals∧(∀ x c,X.env.cells.lookup x=some c→c ≠ b)∧∀ p ∈ X.pn ++ pins,p.1 ≠ b):Inv X pins σ H' s':=by
 obtain ⟨h',g',d',t',o'⟩:=s'
 have e:o'=s.os:=ho
 subst e
 exact I.call (g':=g') (t':=t') (d':=d') u hok hg hch
end
abbrev XK:=Value→Option Addr→Hp→Prop
abbrev St:=List (Option V)
abbrev VK:=V→Hp→Prop
abbrev TE:=St→Hp→VK→Prop
abbrev TT:=St→Hp→(Bool→Hp→Prop)→Prop
abbrev TA:=St→Hp→(List V→Hp→Prop)→Prop
structure Ends where
 nx:St→Hp→Prop
 rt:VK
 bk:St→Hp→Prop:=fun _ _=>False
 ct:St→Hp→Prop:=fun _ _=>False
abbrev TS:=Ends→St→Hp→Prop
def EP (X:Cx) (pins:List (Addr × Obj)) (σ:St) (Q:VK) (u:Value) (s':Shared):Prop:=∃ v H',Inv X pins σ H' s'∧RelV v u∧Q v H'
def TP (X:Cx) (pins:List (Addr × Obj)) (σ:St) (Q:Bool→Hp→Prop) (b:Bool) (s':Shared):Prop:=∃ H',Inv X pins σ H' s'∧Q b H'
def AP (X:Cx) (pins:List (Addr × Obj)) (σ:St) (Q:List V→Hp→Prop) (us:List Value) (s':Shared):Prop:=∃ vs H',Inv X pins σ H' s'∧Vals vs us∧Q vs H'
def SP (X:Cx) (pins:List (Addr × Obj)) (D:Ends) (f:Flow) (s':Shared):Prop :=
 match f with
 | .next=>∃ σ' H',Inv X pins σ' H' s'∧D.nx σ' H'
 | .brk=>∃ σ' H',Inv X pins σ' H' s'∧D.bk σ' H'
 | .cont=>∃ σ' H',Inv X pins σ' H' s'∧D.ct σ' H'
 | .ret u=>∃ v σ' H',Inv X pins σ' H' s'∧RelV v u∧D.rt v H'
def PE (X:Cx) (e:Expr) (t:TE):Prop :=
 ∀ (pins:List (Addr × Obj)) (s:Shared) (σ:St) (H:Hp) (Q:VK),Inv X pins σ H s→t σ H Q→wpAny (model X.prog X.w) X.A (eval e X.env) (EP X pins σ Q) X.xe s
def PT (X:Cx) (e:Expr) (t:TT):Prop :=
 ∀ (pins:List (Addr × Obj)) (s:Shared) (σ:St) (H:Hp) (Q:Bool→Hp→Prop),Inv X pins σ H s→t σ H Q→wpAny (model X.prog X.w) X.A (isTrue e X.env (eval e X.env)) (TP X pins σ Q) X.xe s
def PW (X:Cx) (e:Expr) (t:TT):Prop :=
 ∀ (whole:Sem Value) (pins:List (Addr × Obj)) (s:Shared) (σ:St) (H:Hp) (Q:Bool→Hp→Prop),Inv X pins σ H s→t σ H Q→wpAny (model X.prog X.w) X.A (isTrue e X.env whole) (TP X pins σ Q) X.xe s
theorem PW.pt {X:Cx} {e:Expr} {t:TT} (h:PW X e t):PT X e t:=h _
def PA (X:Cx) (es:List Expr) (t:TA):Prop :=
 ∀ (pos:Pos) (pins:List (Addr × Obj)) (s:Shared) (σ:St) (H:Hp) (Q:List V→Hp→Prop),Inv X pins σ H s→t σ H Q→wpAny (model X.prog X.w) X.A (spliced (backTo pos (starEach es X.env))) (AP X pins σ Q) X.xe s
def PS (X:Cx) (st:Stmt) (t:TS):Prop :=
 ∀ (pins:List (Addr × Obj)) (s:Shared) (σ:St) (H:Hp) (D:Ends),Inv X pins σ H s→t D σ H→wpAny (model X.prog X.w) X.A (exec st X.env) (SP X pins D) X.xe s
def PSs (X:Cx) (st:List Stmt) (t:TS):Prop :=
 ∀ (pins:List (Addr × Obj)) (s:Shared) (σ:St) (H:Hp) (D:Ends),Inv X pins σ H s→t D σ H→wpAny (model X.prog X.w) X.A (execs st X.env) (SP X pins D) X.xe s
theorem thn {α:Type} {t:Sem α} {Q Q':α→Shared→Prop} {M:Model} {A:Around} {E:Value→Shared→Prop} {s:Shared} (h:wpAny M A t Q E s) (hQ:∀ a s,Q a s→Q' a s):wpAny M A t Q' E s:=wpAny_mono h hQ fun _ _ x=>x
end L2
namespace L2
open PySem PySem.Spec PyProof.Rows
section
variable {X:Cx}
def tVar (i:Nat):TE:=fun σ H Q=>∃ v,σ[i]? = some (some v)∧Q v H
def tC (v:V):TE:=fun _ H Q=>Q v H
theorem ziM {i:Nat} {x:Str} {pos:Pos} (hN:X.N[i]? = some x) (hv:Vis X.env.scope x) (hd:(x == ("__debug__" : Str))=false:=by decide) (hcd:(x == ("__classdict__" : Str))=false:=by decide):PE X (.Name x pos) (tVar i):=by
 intro pins s σ H Q I h
 obtain ⟨v,e,h⟩:=h
 obtain ⟨m,hn,hl⟩:=I.loc
 obtain ⟨u,r,l⟩:=hl i x v hN e hv
 have fin:EP X pins σ Q u s:=⟨v,H,I,r,h⟩
 rcases l with ⟨hk,hm⟩ | ⟨hk,c,hc,hcell⟩
 ·exact wpAny_Name (wpAny_loadName_local I.ok.kind hk hn hm fin) hd
 ·rcases hk with hk | hk
  ·exact wpAny_Name (wpAny_loadName_cell I.ok.kind hk hc hcell fin) hd
  ·exact wpAny_Name (wpAny_loadName_free I.ok.kind hk hc hcell fin hcd) hd
theorem zvD {i j pos}:PE X (.Constant (.int i) j pos) (tC (.int i)):=fun _ _ _ H _ I h=>wpAny_Constant_int ⟨.int i,H,I.tok _,⟨_,rfl⟩,h⟩
theorem zv5 {b j pos}:PE X (.Constant (.bool b) j pos) (tC (.bl b)):=fun _ _ _ H _ I h=>Constant_bool ⟨.bl b,H,I,rfl,h⟩
theorem zvH {j pos}:PE X (.Constant .none j pos) (tC .non):=fun _ _ _ H _ I h=>Constant_none ⟨.non,H,I,rfl,h⟩
theorem zuG {x j pos}:PE X (.Constant (.str x) j pos) (tC (.str x)):=fun _ _ _ H _ I h=>Calls.Constant_str ⟨.str x,H,I.tok _,⟨_,rfl⟩,h⟩
def Gl (X:Cx) (x:Str):Prop:=X.env.kindOf x=some .globalImplicit
theorem zfW {E:Value→Shared→Prop} {pins:List (Addr × Obj)} {s:Shared} {σ:St} {H:Hp} {x:Str} {u:Value} {pos:Pos} {Q:Value→Shared→Prop} (I:Inv X pins σ H s) (hg:Gl X x) (hm:X.mg x=some u) (h:Q u s)
  (hd:(x == ("__debug__" : Str))=false:=by decide):wpAny (model X.prog X.w) X.A (eval (.Name x pos) X.env) Q E s :=
 Calls.Name_function_global I.ok.kind hg (Calls.loadGlobal_global (by rw [I.ok.glob];exact I.mod.glob.keeps I.bk) hm h) hd
theorem zfM {E:Value→Shared→Prop} {pins:List (Addr × Obj)} {s:Shared} {σ:St} {H:Hp} {x:Str} {u:Value} {pos:Pos} {Q:Value→Shared→Prop} (I:Inv X pins σ H s) (hg:Gl X x) (hm:X.mg x=none) (hv:bootBuiltins x=some u) (h:Q u s)
  (hn:x ≠ "__name__":=by decide) (hd:(x == ("__debug__" : Str))=false:=by decide):wpAny (model X.prog X.w) X.A (eval (.Name x pos) X.env) Q E s:=by
 obtain ⟨mb,h1,h2⟩:=I.mod.blt
 exact Calls.Name_function_global I.ok.kind hg (Calls.loadGlobal_builtin (by rw [I.ok.glob];exact I.mod.glob.keeps I.bk) hm (by rw [I.ok.blt];exact h1.keeps I.bk) ((h2 x hn).trans hv) h) hd
theorem zqd {x:Str} {v:V} {u:Value} {pos:Pos} (hg:Gl X x) (hm:X.mg x=some u) (r:RelV v u) (hd:(x == ("__debug__" : Str))=false:=by decide):PE X (.Name x pos) (tC v) :=
 fun _ _ _ H _ I h=>zfW I hg hm ⟨v,H,I,r,h⟩ hd
theorem zt2 {x:Str} {v:V} {u:Value} {pos:Pos} (hg:Gl X x) (hm:X.mg x=none) (hv:bootBuiltins x=some u) (r:RelV v u) (hn:x ≠ "__name__":=by decide) (hd:(x == ("__debug__" : Str))=false:=by decide):PE X (.Name x pos) (tC v) :=
 fun _ _ _ H _ I h=>zfM I hg hm hv ⟨v,H,I,r,h⟩ hn hd
variable {a b:Expr} {ta tb:TE} {pos:Pos}
def PC (X:Cx) (op:CmpOp) (a b:Expr) (t:TE):Prop :=
 ∀ (pins:List (Addr × Obj)) (s:Shared) (σ:St) (H:Hp) (Q:VK),Inv X pins σ H s→t σ H Q →
  wpAny (model X.prog X.w) X.A (eval a X.env) (fun v s₁=>wpAny (model X.prog X.w) X.A (eval b X.env) (fun u s₂=>wpAny (model X.prog X.w) X.A (compareOp op v u) (EP X pins σ Q) X.xe s₂) X.xe s₁) X.xe s
def tB (t:TE):TT:=fun σ H Q=>t σ H fun x H1=>∃ c,x = .bl c∧Q c H1
theorem zvI {op:CmpOp} {t:TE} (h:PC X op a b t) (h1:behindInMarks op b=false:=by first | exact nobehind _ (by decide) (by decide) | rfl):PT X (.Compare a [op] [b] pos) (tB t):=by
 intro pins s σ H Q I hw
 refine wpAny_isTrue_Compare1 (thn (h pins s σ H _ I hw) fun v s1 h1=>thn h1 fun u s2 h2=>thn h2 fun c s3 ⟨x,H1,I1,r1,q1⟩=>?_) h1
 obtain ⟨d,rfl,q⟩:=q1
 cases r1
 exact wpAny_truthy_bool ⟨H1,I1,q⟩
theorem zvp {e:Expr} {t:TE} (h:PE X e t) (he:∀ whole,isTrue e X.env whole=(do let v ← whole;standAt e.pos;holding [v] (truthy v)):=by intro _;rfl):PT X e (tB t):=by
 intro pins s σ H Q I hw
 refine isTrue_plain (thn (h pins s σ H _ I hw) fun v s1 ⟨x,H1,I1,r1,q1⟩=>?_) (he _)
 obtain ⟨d,rfl,q⟩:=q1
 cases r1
 exact wpAny_truthy_bool ⟨H1,I1,q⟩
variable {tA tB':TT} {rest:List Expr}
def tAnd (t u:TT):TT:=fun σ H Q=>t σ H fun c H1=>if c=true then u σ H1 Q else Q false H1
def tOr (t u:TT):TT:=fun σ H Q=>t σ H fun c H1=>if c=true then Q true H1 else u σ H1 Q
def tNot (t:TT):TT:=fun σ H Q=>t σ H fun c H1=>Q (!c) H1
theorem pw_and1 (ha:PT X a tA):PW X (.BoolOp .And [a] pos) tA:=by
 intro wh pins s σ H Q I h
 refine isTrue_and (thn (ha pins s σ H Q I h) fun c s1 e=>?_)
 cases c with
 | true=>exact isTrue_and_nil e
 | false=>exact e
theorem pw_or1 (ha:PT X a tA):PW X (.BoolOp .Or [a] pos) tA:=by
 intro wh pins s σ H Q I h
 refine isTrue_or (thn (ha pins s σ H Q I h) fun c s1 e=>?_)
 cases c with
 | false=>exact isTrue_or_nil e
 | true=>exact e
theorem pw_and (ha:PT X a tA) (hb:PW X (.BoolOp .And (b :: rest) pos) tB'):PW X (.BoolOp .And (a :: b :: rest) pos) (tAnd tA tB'):=by
 intro wh pins s σ H Q I h
 refine isTrue_and (thn (ha pins s σ H _ I h) fun c s1 ⟨H1,I1,q1⟩=>?_)
 cases c with
 | true=>exact hb wh pins s1 σ H1 Q I1 q1
 | false=>exact ⟨H1,I1,q1⟩
theorem pw_or (ha:PT X a tA) (hb:PW X (.BoolOp .Or (b :: rest) pos) tB'):PW X (.BoolOp .Or (a :: b :: rest) pos) (tOr tA tB'):=by
 intro wh pins s σ H Q I h
 refine isTrue_or (thn (ha pins s σ H _ I h) fun c s1 ⟨H1,I1,q1⟩=>?_)
 cases c with
 | true=>exact ⟨H1,I1,q1⟩
 | false=>exact hb wh pins s1 σ H1 Q I1 q1
theorem zvl (ha:PT X a tA):PT X (.UnaryOp .Not a pos) (tNot tA):=by
 intro pins s σ H Q I h
 exact isTrue_not (ha pins s σ H (fun c H1=>Q (!c) H1) I h)
def zwh (ta tb:TE):TE:=fun σ H Q=>ta σ H fun x H1=>∃ c,x = .bl c∧if c=true then tb σ H1 Q else Q (.bl false) H1
def tOrV (ta tb:TE):TE:=fun σ H Q=>ta σ H fun x H1=>∃ c,x = .bl c∧if c=true then Q (.bl true) H1 else tb σ H1 Q
theorem zu9 {op} {t:TE} (h:PE X a t):PE X (.BoolOp op [a] pos) t:=fun pins s σ H Q I hw=>BoolOp_one (h pins s σ H Q I hw)
theorem zvc (ha:PE X a ta) (hb:PE X (.BoolOp .And (b :: rest) pos) tb):PE X (.BoolOp .And (a :: b :: rest) pos) (zwh ta tb):=by
 intro pins s σ H Q I h
 refine BoolOp_and (thn (ha pins s σ H _ I h) fun v s1 ⟨x,H1,I1,r1,q1⟩=>?_)
 obtain ⟨c,rfl,q1⟩:=q1
 cases r1
 refine wpAny_truthy_bool ?_
 cases c with
 | true=>exact hb pins s1 σ H1 Q I1 q1
 | false=>exact ⟨.bl false,H1,I1,rfl,q1⟩
theorem zwg (ha:PE X a ta) (hb:PE X (.BoolOp .Or (b :: rest) pos) tb):PE X (.BoolOp .Or (a :: b :: rest) pos) (tOrV ta tb):=by
 intro pins s σ H Q I h
 refine BoolOp_or (thn (ha pins s σ H _ I h) fun v s1 ⟨x,H1,I1,r1,q1⟩=>?_)
 obtain ⟨c,rfl,q1⟩:=q1
 cases r1
 refine wpAny_truthy_bool ?_
 cases c with
 | false=>exact hb pins s1 σ H1 Q I1 q1
 | true=>exact ⟨.bl true,H1,I1,rfl,q1⟩
end
end L2
namespace L2
open PySem PySem.Spec PyProof.Rows
def SqL (K:PySem.W.Frag) (H:Hp) (a:Addr) (xs:List V):Prop :=
 Rd H a (.lst xs) ∨
  ∃ (o:Obj) (its:Array Value) (n:Nat),K.lookup a=some o∧o.cls = .type "list"∧o.dict=none∧o.data = .seq its n∧its.size ≤ sizeLine∧Vals xs its.toList
def SqT (K:PySem.W.Frag) (H:Hp) (a:Addr) (xs:List V):Prop :=
 Rd H a (.tup xs) ∨
  ∃ (o:Obj) (its:Array Value) (n:Nat),K.lookup a=some o∧o.cls = .type "tuple"∧o.data = .seq its n∧its.size ≤ sizeLine∧Vals xs its.toList
def absV:Value→Option V
 | .none=>some .non
 | .bool b=>some (.bl b)
 | .int i _=>some (.int i)
 | .str x _=>some (.str x)
 | .bytes b _=>some (.byt b)
 | .float b _=>some (.flt b)
 | .ref a=>some (.ref a)
 | .type n=>some (.ty n)
 | _=>none
theorem RelV.abs {x:V} {u:Value} (r:RelV x u):absV u=some x:=by
 cases x with
 | non=>cases r;rfl
 | bl _=>cases r;rfl
 | int _=>obtain ⟨t,rfl⟩:=r;rfl
 | str _=>obtain ⟨t,rfl⟩:=r;rfl
 | byt _=>obtain ⟨t,rfl⟩:=r;rfl
 | flt _=>obtain ⟨t,rfl⟩:=r;rfl
 | ref _=>cases r;rfl
 | ty _=>cases r;rfl
theorem RelV.inj {x y:V} {u:Value} (r:RelV x u) (q:RelV y u):x=y:=Option.some.inj (r.abs.symm.trans q.abs)
theorem Vals.inj:∀ {xs ys:List V} {us:List Value},Vals xs us→Vals ys us→xs=ys
 | _,_,_, .nil, .nil=>rfl
 | _,_,_, .cons r t, .cons r' t'=>by rw [r.inj r',Vals.inj t t']
section
variable {X:Cx} {pins:List (Addr × Obj)} {σ:St} {H:Hp} {s:Shared} {a:Addr} {xs ys:List V}
theorem SqL.of {K:PySem.W.Frag} (h:H a=some (.lst xs)):SqL K H a xs := .inl (.inl h)
theorem SqT.of {K:PySem.W.Frag} (h:H a=some (.tup xs)):SqT K H a xs := .inl (.inl h)
theorem Inv.list (I:Inv X pins σ H s) (h:SqL X.K H a xs):∃ its:List Value,Vals xs its∧PlainL s.heap a its.toArray∧xs.length ≤ sizeLine:=by
 rcases h with h | ⟨o,its,n,hk,hc,hd,hs,hz,r⟩
 ·obtain ⟨z,its,n,r,e⟩:=h.ok I.hok
  exact ⟨its,r,⟨_,n,e,rfl,rfl,rfl⟩,z⟩
 ·refine ⟨its.toList,r,⟨o,n,I.kIn a o hk,hc,hd,by simpa using hs⟩,?_⟩
  have e:=r.length
  simp only [Array.length_toList] at e
  omega
theorem Inv.tuple (I:Inv X pins σ H s) (h:SqT X.K H a xs):∃ its:List Value,Vals xs its∧IsTup s.heap a its.toArray∧xs.length ≤ sizeLine:=by
 rcases h with h | ⟨o,its,n,hk,hc,hs,hz,r⟩
 ·obtain ⟨z,its,r,p⟩:=h.ok I.hok
  exact ⟨its,r,p,z⟩
 ·refine ⟨its.toList,r,⟨o,I.kIn a o hk,hc,n,by simpa using hs⟩,?_⟩
  have e:=r.length
  simp only [Array.length_toList] at e
  omega
theorem Inv.zid (I:Inv X pins σ H s) (h:SqL X.K H a xs) (h':SqL X.K H a ys):xs=ys:=by
 obtain ⟨its,r,⟨o,n,e,_,_,d⟩,_⟩:=I.list h
 obtain ⟨its',r',⟨o',n',e',_,_,d'⟩,_⟩:=I.list h'
 rw [e] at e';cases e'
 rw [d] at d'
 injection d' with d1 _
 have:its=its':=by simpa using congrArg Array.toList d1
 subst this
 exact r.inj r'
theorem Inv.zpj (I:Inv X pins σ H s) (h:SqT X.K H a xs) (h':SqT X.K H a ys):xs=ys:=by
 obtain ⟨its,r,⟨o,e,_,n,d⟩,_⟩:=I.tuple h
 obtain ⟨its',r',⟨o',e',_,n',d'⟩,_⟩:=I.tuple h'
 rw [e] at e';cases e'
 rw [d] at d'
 injection d' with d1 _
 have:its=its':=by simpa using congrArg Array.toList d1
 subst this
 exact r.inj r'
end
abbrev Cx.wish (X:Cx) (E:Value→Shared→Prop):Cx:={ X with xe:=E }
abbrev Cx.nox (X:Cx):Cx:=X.wish fun _ _=>False
theorem Cx.Ok.wish {X:Cx} (ok:X.Ok) (E:Value→Shared→Prop):(X.wish E).Ok :=
 ⟨ok.mod,ok.kind,ok.glob,ok.blt,ok.above,ok.inj,ok.has,ok.cab,ok.hd,ok.frames,ok.stk,ok.exf,ok.bs,ok.bsz,ok.noex,ok.exfs,ok.funs,ok.frf⟩
theorem Cx.Ok.zet {X:Cx} {E:Value→Shared→Prop} (ok:(X.wish E).Ok):X.Ok :=
 ⟨ok.mod,ok.kind,ok.glob,ok.blt,ok.above,ok.inj,ok.has,ok.cab,ok.hd,ok.frames,ok.stk,ok.exf,ok.bs,ok.bsz,ok.noex,ok.exfs,ok.funs,ok.frf⟩
section
variable {X:Cx} {pins:List (Addr × Obj)} {σ:St} {H:Hp} {s:Shared} {E:Value→Shared→Prop}
theorem Inv.wish (I:Inv X pins σ H s) (E:Value→Shared→Prop):Inv (X.wish E) pins σ H s:=⟨I.ok.wish E,I.os,I.bare,I.base,I.loc,I.cell,I.free,I.freeC,I.pin,I.hok,I.len⟩
theorem Inv.zet (I:Inv (X.wish E) pins σ H s):Inv X pins σ H s:=⟨I.ok.zet,I.os,I.bare,I.base,I.loc,I.cell,I.free,I.freeC,I.pin,I.hok,I.len⟩
theorem SP.zet {D:Ends} {f:Flow} {s':Shared} (h:SP (X.wish E) pins D f s'):SP X pins D f s':=by
 cases f with
 | next=>obtain ⟨σ',H',I,q⟩:=h;exact ⟨σ',H',I.zet,q⟩
 | brk=>obtain ⟨σ',H',I,q⟩:=h;exact ⟨σ',H',I.zet,q⟩
 | cont=>obtain ⟨σ',H',I,q⟩:=h;exact ⟨σ',H',I.zet,q⟩
 | ret u=>obtain ⟨v,σ',H',I,r,q⟩:=h;exact ⟨v,σ',H',I.zet,r,q⟩
theorem PE.nox {e:Expr} {t:TE} (h:PE X.nox e t):PE X e t:=fun pins s σ H Q I hw =>
 wpAny_mono (h pins s σ H Q (I.wish _) hw) (fun _ _ ⟨v,H',I',r,q⟩=>⟨v,H',I'.zet,r,q⟩) fun _ _ z=>False.elim z
theorem PT.nox {e:Expr} {t:TT} (h:PT X.nox e t):PT X e t:=fun pins s σ H Q I hw =>
 wpAny_mono (h pins s σ H Q (I.wish _) hw) (fun _ _ ⟨H',I',q⟩=>⟨H',I'.zet,q⟩) fun _ _ z=>False.elim z
theorem PSs.nox {st:List Stmt} {t:TS} (h:PSs X.nox st t):PSs X st t:=fun pins s σ H D I hw =>
 wpAny_mono (h pins s σ H D (I.wish _) hw) (fun _ _ q=>q.zet) fun _ _ z=>False.elim z
end
section
variable {X:Cx} {st:Stmt} {rest:List Stmt} {t u:TS} {e:Expr} {te:TE} {pos:Pos}
def zwy:TS:=fun D σ H=>D.nx σ H
def tSeq (t u:TS):TS:=fun D σ H=>t { D with nx:=u D } σ H
theorem ztW:PSs X [] zwy:=fun _ _ σ H _ I h=>wpAny_execs_nil ⟨σ,H,I,h⟩
theorem zrY (h1:PS X st t) (h2:PSs X rest u):PSs X (st :: rest) (tSeq t u):=by
 intro pins s σ H D I h
 refine wpAny_execs_cons (thn (h1 pins s σ H { D with nx:=u D } I h) fun f s1 q=>?_)
 cases f with
 | next =>
  obtain ⟨σ',H',I',q⟩:=q
  exact h2 pins s1 σ' H' D I' q
 | ret v=>exact q
 | brk=>exact q
 | cont=>exact q
theorem zsJ (h1:PS X st t):PSs X [st] t:=by
 intro pins s σ H D I h
 refine wpAny_execs_cons (thn (h1 pins s σ H D I h) fun f s1 q=>?_)
 cases f with
 | next=>exact wpAny_execs_nil q
 | ret v=>exact q
 | brk=>exact q
 | cont=>exact q
theorem Inv.quiet {pins:List (Addr × Obj)} {σ:St} {H:Hp} {s:Shared} (I:Inv X pins σ H s):interactive X.env=false:=by simp [interactive,I.ok.kind]
def zwA (te:TE):TS:=fun D σ H=>te σ H fun _ H1=>D.nx σ H1
theorem zss (he:PE X e te) (hs:swapsWith e none pos.line X.env=pure false:=by rfl):PS X (.Expr e pos) (zwA te):=by
 intro pins s σ H D I h
 exact wpAny_Expr_any (thn (he pins s σ H _ I h) fun v s1 ⟨x,H1,I1,r1,q1⟩=>⟨σ,H1,I1,q1⟩) I.quiet hs
def tRet (te:TE):TS:=fun D σ H=>te σ H D.rt
theorem zvR (he:PE X e te):PS X (.Return (some e) pos) (tRet te):=by
 intro pins s σ H D I h
 exact wpAny_Return_some (thn (he pins s σ H _ I h) fun v s1 ⟨x,H1,I1,r1,q1⟩=>⟨x,σ,H1,I1,r1,q1⟩)
def tIfS (c:TT) (t u:TS):TS:=fun D σ H=>c σ H fun b H1=>if b=true then t D σ H1 else u D σ H1
theorem zwb {c:Expr} {a b:List Stmt} {tc:TT} (hc:PT X c tc) (ha:PSs X a t) (hb:PSs X b u):PS X (.If c a b pos) (tIfS tc t u):=by
 intro pins s σ H D I h
 refine wpAny_If (thn (hc pins s σ H _ I h) fun d s1 ⟨H1,I1,q1⟩=>?_)
 cases d with
 | true=>exact ha pins s1 σ H1 D I1 q1
 | false=>exact hb pins s1 σ H1 D I1 q1
end
abbrev TG:=V→St→Hp→(St→Hp→Prop)→Prop
abbrev TGs:=List V→St→Hp→(St→Hp→Prop)→Prop
def PG (X:Cx) (target:Expr) (t:TG):Prop :=
 ∀ (pins:List (Addr × Obj)) (s:Shared) (σ:St) (H:Hp) (v:V) (u:Value) (Q:St→Hp→Prop),Inv X pins σ H s→RelV v u→t v σ H Q →
  wpAny (model X.prog X.w) X.A (assign target X.env u) (fun _ s'=>∃ σ' H',Inv X pins σ' H' s'∧Q σ' H') X.xe s
def PGs (X:Cx) (ts:List Expr) (t:TGs):Prop :=
 ∀ (pins:List (Addr × Obj)) (s:Shared) (σ:St) (H:Hp) (vs:List V) (us:List Value) (Q:St→Hp→Prop),Inv X pins σ H s→Vals vs us→t vs σ H Q →
  wpAny (model X.prog X.w) X.A (assignInOrder ((assignEach ts X.env).map (·.2)) us) (fun _ s'=>∃ σ' H',Inv X pins σ' H' s'∧Q σ' H') X.xe s
section
variable {X:Cx} {pos:Pos}
def zuy (i:Nat):TG:=fun v σ H Q=>Q (σ.set i (some v)) H
theorem zsB {i:Nat} {x:Str} (hN:X.N.Nodup) (hi:X.N[i]? = some x) (hx:Loc X.env.scope x) (hf:X.fn x=true∨X.env.scope.names.lookup x=some .local:=by first | exact .inl rfl | exact .inr rfl | assumption):PG X (.Name x pos) (zuy i):=by
 intro pins s σ H v u Q I r h
 exact wpAny_assign_Name (zig I hN hi hx r (fun s' I'=>⟨_,H,I',h⟩) hf)
def gNil:TGs:=fun vs σ H Q=>vs=[]∧Q σ H
def zv8 (t:TG) (u:TGs):TGs:=fun vs σ H Q=>∃ v r,vs=v :: r∧t v σ H fun σ' H'=>u r σ' H' Q
theorem ztE:PGs X [] gNil:=by
 intro pins s σ H vs us Q I r h
 obtain ⟨e,h⟩:=h
 subst e
 cases r
 exact assignInOrder_nil ⟨σ,H,I,h⟩
theorem zqQ {e:Expr} {es:List Expr} {t:TG} {u:TGs} (h1:PG X e t) (h2:PGs X es u)
  (hs:(assignEach (e :: es) X.env).map (·.2)=assign e X.env :: (assignEach es X.env).map (·.2):=by rfl):PGs X (e :: es) (zv8 t u):=by
 intro pins s σ H vs us Q I r h
 obtain ⟨v,vr,e1,h⟩:=h
 subst e1
 cases r with
 | cons r rr =>
  rw [hs]
  refine assignInOrder_cons (thn (h1 pins s σ H _ _ _ I r h) fun _ s1 ⟨σ1,H1,I1,q1⟩=>?_)
  exact h2 pins s1 σ1 H1 _ _ Q I1 rr q1
def gTup (K:PySem.W.Frag) (n:Nat) (t:TGs):TG:=fun v σ H Q=>∃ a xs,v = .ref a∧SqT K H a xs∧xs.length=n∧t xs σ H Q
theorem zu4 {es:List Expr} {k:Nat} {t:TGs} {n:Nat} (hc:X.calm=true) (h:PGs X es t)
  (hn:(assignEach es X.env).length=n:=by rfl) (hst:(assignEach es X.env).findIdx? (·.1)=none:=by rfl):PG X (.Tuple es k pos) (gTup X.K n t):=by
 intro pins s σ H v u Q I r hw
 obtain ⟨a,xs,e1,hq,hl,hw⟩:=hw
 subst e1
 cases r
 obtain ⟨its,rv,ht,hz⟩:=I.tuple hq
 refine assign_Tuple_tuple (I.ok.hd hc) ht (by simp [hn,← hl,rv.length]) hst fun h' hx=>?_
 have I1:Inv X pins σ H { s with heap:=h' }:=I.kept (t':=s.toks) fun b o e=>hx b o (Nat.ne_of_lt (Heap.lt_size e)) e
 exact h pins _ σ H xs _ Q I1 (by simpa using rv) hw
def tAsg (te:TE) (g:TG):TS:=fun D σ H=>te σ H fun x H1=>g x σ H1 D.nx
theorem zuT {tg e:Expr} {te:TE} {g:TG} (he:PE X e te) (hg:PG X tg g) (hs:swapsWithSole [tg] e pos.line X.env=pure false:=by rfl) (hw:swappedStores [tg] e X.env=pure none:=by rfl)
  (h1:(assignEach [tg] X.env).map (·.2)=[assign tg X.env]:=by rfl):PS X (.Assign [tg] e pos) (tAsg te g):=by
 intro pins s σ H D I h
 refine wpAny_Assign_stores (thn (he pins s σ H _ I h) fun v s1 ⟨x,H1,I1,r1,q1⟩=>?_) hs hw
 rw [h1]
 exact thn (hg pins s1 σ H1 x v _ I1 r1 q1) fun _ s2 q=>q
theorem zu8 {i:Nat} {x:Str} {e:Expr} {te:TE} {pos':Pos} (hN:X.N.Nodup) (hi:X.N[i]? = some x) (hx:Loc X.env.scope x) (he:PE X e te) (hs:swapsWith e (some (.Name x pos')) pos.line X.env=pure false:=by rfl) (hf:X.fn x=true∨X.env.scope.names.lookup x=some .local:=by first | exact .inl rfl | exact .inr rfl | assumption) :
  PS X (.Assign [.Name x pos'] e pos) (tAsg te (zuy i)):=by
 intro pins s σ H D I h
 refine wpAny_Assign_Name (thn (he pins s σ H _ I h) fun v s1 ⟨y,H1,I1,r1,q1⟩=>?_) hs
 exact zig I1 hN hi hx r1 (fun s2 I2=>⟨_,H1,I2,q1⟩) hf
end
section
variable {X:Cx} {pos:Pos}
end
structure It where
 go:Nat→Hp→Prop
 yld:Nat→Hp→V→Hp→Prop
 stop:Nat→Hp→Prop
def FpOk (X:Cx) (pins:List (Addr × Obj)) (H:Hp) (b:Addr):Prop :=
 H b=none∧b ≠ X.env.locals∧b ∉ X.fs∧(b ∈ X.ex∨X.s₀.heap.objs.size ≤ b)∧(∀ x c,X.env.cells.lookup x=some c→c ≠ b)∧∀ p ∈ X.pn ++ pins,p.1 ≠ b
theorem Inv.fpOk {X:Cx} {pins:List (Addr × Obj)} {σ:St} {H H':Hp} {s:Shared} {b:Addr} (I:Inv X pins σ H s) (hb:s.heap.objs.size ≤ b) (hn:H' b=none):FpOk X pins H' b:=by
 refine ⟨hn,Nat.ne_of_gt (Nat.lt_of_lt_of_le I.lt hb),I.nofs hb, .inr (Nat.le_trans I.sz hb),fun x c e z=>?_,fun p hp z=>?_⟩
 ·obtain ⟨v,q⟩:=I.cell x c e
  exact absurd (Nat.lt_of_lt_of_le q.lt (by rw [z];exact hb)) (Nat.lt_irrefl _)
 ·exact absurd (Nat.lt_of_lt_of_le (Heap.lt_size (I.pin p hp).1) (by rw [z];exact hb)) (Nat.lt_irrefl _)
structure Turn (P:Program) (w:World) (K:PySem.W.Frag) (tg:Expr) (J:It) (fp:List Addr) (it:Addr) (tn:Nat→Heap→Prop):Prop where
 mem:it ∈ fp
 obj:∀ i h,tn i h→∀ b ∈ fp,∃ o,h.get? b=some o∧∀ v,o.data ≠ .cell v
 keep:∀ i h h',tn i h→(∀ b ∈ fp,∀ o,h.get? b=some o→h'.get? b=some o)→tn i h'
 item:∀ (X:Cx),X.prog=P→X.w=w→X.K=K→X.calm=true→∀ (i:Nat) (pins:List (Addr × Obj)) (s:Shared) (σ:St) (H:Hp) (E:Value→Shared→Prop),Inv X pins σ H s→(∀ b ∈ fp,FpOk X pins H b)→tn i s.heap→J.go i H →
  wpAny (model P w) X.A (pyNext (.ref it)) (fun r s1=>∃ u,r=some u ∧
   wpAny (model P w) X.A (letOwnedTupleGo tg (.ref it) u) (fun _ s2=>∃ x H',Inv X pins σ H' s2∧RelV x u∧J.yld i H x H'∧tn (i + 1) s2.heap∧∀ b ∈ fp,H' b=none) E s1) E s
 done:∀ (X:Cx),X.prog=P→X.w=w→X.K=K→X.calm=true→∀ (i:Nat) (pins:List (Addr × Obj)) (s:Shared) (σ:St) (H:Hp) (E:Value→Shared→Prop),Inv X pins σ H s→(∀ b ∈ fp,FpOk X pins H b)→tn i s.heap→J.stop i H →
  wpAny (model P w) X.A (pyNext (.ref it)) (fun r s1=>r=none∧Inv X pins σ H s1) E s
 self:∀ (A:Around) (i:Nat) (s:Shared) (Q:Value→Shared→Prop) (E:Value→Shared→Prop),tn i s.heap→Q (.ref it) s→wpAny (model P w) A (pyIter (.ref it)) Q E s
abbrev TI:=St→Hp→(It→Hp→Prop)→Prop
def PIE (X:Cx) (pins:List (Addr × Obj)) (σ:St) (tg:Expr) (R:It→Hp→Prop) (itv:Value) (s2:Shared):Prop :=
 ∃ (it:Addr) (fp:List Addr) (tn:Nat→Heap→Prop) (J:It) (H':Hp),itv = .ref it∧Inv X pins σ H' s2∧Turn X.prog X.w X.K tg J fp it tn∧tn 0 s2.heap∧(∀ b ∈ fp,FpOk X pins H' b)∧R J H'
def PI (X:Cx) (tg iter:Expr) (wi:TI):Prop :=
 ∀ (pins:List (Addr × Obj)) (s:Shared) (σ:St) (H:Hp) (R:It→Hp→Prop),Inv X pins σ H s→wi σ H R →
  wpAny (model X.prog X.w) X.A (eval iter X.env) (fun v s1=>wpAny (model X.prog X.w) X.A (pyIter v) (PIE X pins σ tg R) X.xe s1) X.xe s
theorem zrN {M:Model} {A:Around} {E:Value→Shared→Prop} {s:Shared} {tg:Expr} {it:Addr} {u:Value} {o:Obj} {n:String} {vs:Array Value} {Q:Unit→Shared→Prop} (ho:s.heap.get? it=some o) (hc:o.cls = .type n) (hd:o.data = .fields vs)
  (hn : ["enumerate", "zip", "dict_itemiterator", "dict_reverseitemiterator", "odict_iterator", "itertools.zip_longest", "itertools.pairwise"].contains n=false) (hQ:Q () s):wpAny M A (letOwnedTupleGo tg (.ref it) u) Q E s:=by
 unfold letOwnedTupleGo
 cases tg <;> first
  | exact wpAny_pure hQ
  | (cases u <;> first
    | exact wpAny_pure hQ
    | (refine wpAny_bind (wpAny_load ho ?_)
       rw [hc,hd]
       show wpAny M A (if (["enumerate", "zip", "dict_itemiterator", "dict_reverseitemiterator", "odict_iterator", "itertools.zip_longest", "itertools.pairwise"].contains n && vs[0]? == some (rawInt _))=true then _ else _) Q E s
       rw [if_neg (by intro h;rw [hn,Bool.false_and] at h;cases h)]
       exact wpAny_pure hQ))
def Itl (K:PySem.W.Frag) (a:Addr):It :=
 ⟨fun i H=>∃ xs x,SqL K H a xs∧xs[i]? = some x,fun i H x H'=>H'=H∧∀ xs,SqL K H a xs→xs[i]? = some x,fun i H=>∃ xs,SqL K H a xs∧xs.length ≤ i⟩
def Itt (K:PySem.W.Frag) (a:Addr):It :=
 ⟨fun i H=>∃ xs x,SqT K H a xs∧xs[i]? = some x,fun i H x H'=>H'=H∧∀ xs,SqT K H a xs→xs[i]? = some x,fun i H=>∃ xs,SqT K H a xs∧xs.length ≤ i⟩
def Itr (lo:Int) (n:Nat):It:=⟨fun i _=>i < n,fun i H x H'=>H'=H∧x = .int (lo + i),fun i _=>n ≤ i⟩
theorem zpG {P:Program} {w:World} {K:PySem.W.Frag} {tg:Expr} (a it:Addr):Turn P w K tg (Itl K a) [it] it (fun i h=>h.IsListIter it a i) where
 mem:=by simp
 obj:=fun i h st b hb=>by
  have e:b=it:=by simpa using hb
  subst e
  obtain ⟨o,e,c,d⟩:=st
  exact ⟨o,e,fun v z=>by rw [d] at z;cases z⟩
 keep:=fun i h h' st k=>st.at fun o e=>k it (by simp) o e
 item:=by
  intro X hP hw hK hc i pins s σ H E I hf st hg
  subst hP hw hK
  obtain ⟨xs,x,hq,hx⟩:=hg
  obtain ⟨its,rv,p,hz⟩:=I.list hq
  obtain ⟨u,hu,ru⟩:=rv.get hx
  obtain ⟨f0,f1,f2,f3,f4,f5⟩:=hf it (by simp)
  refine wpAny_pyNext_list_item st p.isList (x:=u) (by simpa using hu) fun h' st' sb=>?_
  have I1:Inv X pins σ H { s with heap:=h' }:=I.turned (t':=s.toks) (fun b o hb e=>(sb.2 b hb).trans e) f0 f1 f3 f4 f5
  obtain ⟨o,e,c,d⟩:=id st'
  exact ⟨u,rfl,zrN (s:={ s with heap:=h' }) e c d (by decide) ⟨x,H,I1,ru,⟨rfl,fun ys hy=>by rw [I.zid hy hq];exact hx⟩,st',fun b hb=>(hf b hb).1⟩⟩
 done:=by
  intro X hP hw hK hc i pins s σ H E I hf st hg
  subst hP hw hK
  obtain ⟨xs,hq,hx⟩:=hg
  obtain ⟨its,rv,p,hz⟩:=I.list hq
  obtain ⟨f0,f1,f2,f3,f4,f5⟩:=hf it (by simp)
  have hl:=rv.length
  exact wpAny_pyNext_list_end (I.ok.hd hc) st p.isList (by simp;omega) fun h' eb=>⟨rfl,I.turned (t':=s.toks) (fun b o hb e=>eb b o hb e) f0 f1 f3 f4 f5⟩
 self:=fun _ _ _ _ _ st h=>wpAny_pyIter_listiter st h
theorem zow {P:Program} {w:World} {K:PySem.W.Frag} {tg:Expr} (a it:Addr):Turn P w K tg (Itt K a) [it] it (fun i h=>h.IsTupleIter it a i) where
 mem:=by simp
 obj:=fun i h st b hb=>by
  have e:b=it:=by simpa using hb
  subst e
  obtain ⟨o,e,c,d⟩:=st
  exact ⟨o,e,fun v z=>by rw [d] at z;cases z⟩
 keep:=fun i h h' st k=>st.at fun o e=>k it (by simp) o e
 item:=by
  intro X hP hw hK hc i pins s σ H E I hf st hg
  subst hP hw hK
  obtain ⟨xs,x,hq,hx⟩:=hg
  obtain ⟨its,rv,p,hz⟩:=I.tuple hq
  obtain ⟨u,hu,ru⟩:=rv.get hx
  obtain ⟨f0,f1,f2,f3,f4,f5⟩:=hf it (by simp)
  refine wpAny_pyNext_tuple_item st (show s.heap.IsTuple a its.toArray from p) (x:=u) (by simpa using hu) fun h' st' sb=>?_
  have I1:Inv X pins σ H { s with heap:=h' }:=I.turned (t':=s.toks) (fun b o hb e=>(sb.2 b hb).trans e) f0 f1 f3 f4 f5
  obtain ⟨o,e,c,d⟩:=id st'
  exact ⟨u,rfl,zrN (s:={ s with heap:=h' }) e c d (by decide) ⟨x,H,I1,ru,⟨rfl,fun ys hy=>by rw [I.zpj hy hq];exact hx⟩,st',fun b hb=>(hf b hb).1⟩⟩
 done:=by
  intro X hP hw hK hc i pins s σ H E I hf st hg
  subst hP hw hK
  obtain ⟨xs,hq,hx⟩:=hg
  obtain ⟨its,rv,p,hz⟩:=I.tuple hq
  obtain ⟨f0,f1,f2,f3,f4,f5⟩:=hf it (by simp)
  have hl:=rv.length
  exact wpAny_pyNext_tuple_end (I.ok.hd hc) st (show s.heap.IsTuple a its.toArray from p) (by simp;omega) fun h' eb=>⟨rfl,I.turned (t':=s.toks) (fun b o hb e=>eb b o hb e) f0 f1 f3 f4 f5⟩
 self:=fun _ _ _ _ _ st h=>wpAny_pyIter_tupleiter st h
theorem zoC {P:Program} {w:World} {K:PySem.W.Frag} {tg:Expr} (it:Addr) (lo:Int) (n:Nat):Turn P w K tg (Itr lo n) [it] it (fun i h=>IsRangeIter h it (lo + (i:Nat) * 1) ((n:Int) - (i:Nat)) 1) where
 mem:=by simp
 obj:=fun i h st b hb=>by
  have e:b=it:=by simpa using hb
  subst e
  exact ⟨_,st,fun v z=>by
   have z':Data.fields _=Data.cell v:=z
   cases z'⟩
 keep:=fun i h h' st k=>k it (by simp) _ st
 item:=by
  intro X hP hw hK hc i pins s σ H E I hf st hg
  subst hP hw hK
  obtain ⟨f0,f1,f2,f3,f4,f5⟩:=hf it (by simp)
  have W:=Walks.range (prog:=X.prog) (w:=X.w) (I.ok.hd hc) it lo 1 n
  refine W.item i s _ _ hg st fun v h' tk hv st' kk=>?_
  obtain ⟨t,rfl⟩:=hv
  have I1:Inv X pins σ H { s with heap:=h',toks:=tk }:=I.turned (fun b o hb e=>kk b o (by simpa using hb) e) f0 f1 f3 f4 f5
  refine ⟨_,rfl,zrN (s:={ s with heap:=h',toks:=tk }) (n := "range_iterator") st' rfl rfl (by decide) ⟨.int (lo + i),H,I1,⟨t,?_⟩,⟨rfl,rfl⟩,st',fun b hb=>(hf b hb).1⟩⟩
  rw [Int.mul_one]
 done:=by
  intro X hP hw hK hc i pins s σ H E I hf st hg
  subst hP hw hK
  obtain ⟨f0,f1,f2,f3,f4,f5⟩:=hf it (by simp)
  exact wpAny_pyNext_range_end (I.ok.hd hc) st (by have:n ≤ i:=hg;omega) fun h' eb=>⟨rfl,I.turned (t':=s.toks) (fun b o hb e=>eb b o hb e) f0 f1 f3 f4 f5⟩
 self:=fun _ _ _ _ _ st h=>wpAny_pyIter_rangeiter st h
end L2
namespace L2
open PySem PySem.Spec PyProof.Rows
section
variable {X:Cx} {tg:Expr}
theorem zne {pins:List (Addr × Obj)} {σ:St} {H:Hp} {s:Shared} {R:It→Hp→Prop} {E:Value→Shared→Prop} {lo hi:Int} {t u v:Tok} {tk:Nat} (I:Inv X pins σ H s) (h1 : -(2 ^ 62) ≤ lo) (h2:lo < 2 ^ 62) (h3 : -(2 ^ 62) ≤ hi) (h4:hi < 2 ^ 62)
  (q:R (Itr lo (hi - lo).toNat) H):wpAny (model X.prog X.w) X.A (pyIter (.ref s.heap.objs.size)) (PIE X pins σ tg R) E { s with heap:=s.heap.push { cls := .type "range",data := .fields #[.int lo t, .int hi u, .int 1 v] },toks:=tk }:=by
 refine wpAny_pyIter_range (IsRange.new ..) (small_one h1 h2 h3 h4) ?_
 have I1:Inv X pins σ H { s with heap:=s.heap.push { cls := .type "range",data := .fields #[.int lo t, .int hi u, .int 1 v] },toks:=tk }:=I.kept fun b o e=>Heap.get?_push_of_some _ e
 refine ⟨(s.heap.push { cls := .type "range",data := .fields #[.int lo t, .int hi u, .int 1 v] }).objs.size,[(s.heap.push { cls := .type "range",data := .fields #[.int lo t, .int hi u, .int 1 v] }).objs.size],_,_,H,rfl,
  I1.kept (t':=tk) fun b o e=>Heap.get?_push_of_some _ e,zoC _ lo (hi - lo).toNat,?_,fun b hb=>?_,q⟩
 ·have e1:lo + ((0:Nat):Int) * 1=lo:=by simp
  have e2:(((hi - lo).toNat:Nat):Int) - ((0:Nat):Int)=Builtin.Range.rangeSize lo hi 1:=by rw [rangeSize_one];split <;> omega
  show IsRangeIter _ _ (lo + ((0:Nat):Int) * 1) ((((hi - lo).toNat:Nat):Int) - ((0:Nat):Int)) 1
  rw [e1,e2]
  exact Heap.get?_push_size _ rfl
 ·have e:b=(s.heap.push { cls := .type "range",data := .fields #[.int lo t, .int hi u, .int 1 v] }).objs.size:=by simpa using hb
  subst e
  exact I1.fpOk (Nat.le_refl _) (I1.hok.fresh (Nat.le_refl _))
def zwr (ta:TA):TI:=fun σ H R=>ta σ H fun vs H1=>∃ j:Int,vs=[.int j]∧-(2 ^ 62) ≤ j∧j < 2 ^ 62∧R (Itr 0 j.toNat) H1
def zwl (ta:TA):TI:=fun σ H R=>ta σ H fun vs H1=>∃ i j:Int,vs=[.int i, .int j]∧(-(2 ^ 62) ≤ i∧i < 2 ^ 62∧-(2 ^ 62) ≤ j∧j < 2 ^ 62)∧R (Itr i (j - i).toNat) H1
theorem zp2 {a:Expr} {ta:TA} {p pos:Pos} (hg:Gl X "range") (hm:X.mg "range" = none) (ha:PA X [a] ta) (hs:starEach [a] X.env=[(false,eval a X.env)]:=by rfl):PI X tg (.Call (.Name "range" p) [a] [] pos) (zwr ta):=by
 intro pins s σ H R I h
 refine Call_ (zfM I hg hm boot_range (PyProof.Rows.callWith_type1 (thn (ha pos pins s σ H _ I h) fun us s1 ⟨vs,H1,I1,r1,q1⟩=>?_) hs rfl))
 obtain ⟨j,e,q1,q2,q⟩:=q1
 subst e
 cases r1 with
 | cons r rr =>
  cases rr
  obtain ⟨t,rfl⟩:=r
  exact call_range_1 (zne I1 (by omega) (by omega) q1 q2 (by simpa using q))
theorem zp1 {a b:Expr} {ta:TA} {p pos:Pos} (hg:Gl X "range") (hm:X.mg "range" = none) (ha:PA X [a,b] ta) (hs:starEach [a,b] X.env=[(false,eval a X.env),(false,eval b X.env)]:=by rfl) (hs2:starEach [b] X.env=[(false,eval b X.env)]:=by rfl) :
  PI X tg (.Call (.Name "range" p) [a,b] [] pos) (zwl ta):=by
 intro pins s σ H R I h
 refine Call_ (zfM I hg hm boot_range (PyProof.Rows.callWith_type1 (thn (ha pos pins s σ H _ I h) fun us s1 ⟨vs,H1,I1,r1,q1⟩=>?_) (by rw [hs,hs2]) (by rw [hs2];rfl)))
 obtain ⟨i,j,e,⟨q1,q2,q3,q4⟩,q⟩:=q1
 subst e
 cases r1 with
 | cons r rr =>
  cases rr with
  | cons r' rr =>
   cases rr
   obtain ⟨t,rfl⟩:=r
   obtain ⟨t',rfl⟩:=r'
   exact call_range_2 (zne I1 q1 q2 q3 q4 q)
def tFor (wi:TI) (g:TG) (tb:TS):TS:=fun D σ H=>wi σ H fun J H1=>∃ W:Nat→Nat→St→Hp→Prop,(∃ m,W 0 m σ H1)∧∀ i m σ H,W i m σ H →
 (J.stop i H∧D.nx σ H)∨(J.go i H∧∃ N:St→Hp→Prop,(∀ σ' H',N σ' H'→∃ m',m' < m∧W (i + 1) m' σ' H')∧∀ x H',J.yld i H x H'→g x σ H' fun σ2 H2=>tb { D with nx:=N,ct:=N,bk:=D.nx } σ2 H2)
def zlI (fp:List Addr) (h:Heap):List (Addr × Obj):=fp.filterMap fun b=>(h.get? b).map fun o=>(b,o)
theorem zge {fp:List Addr} {h:Heap} {b:Addr} {o:Obj} (hb:b ∈ fp) (e:h.get? b=some o):(b,o) ∈ zlI fp h:=List.mem_filterMap.mpr ⟨b,hb,by rw [e];rfl⟩
theorem zoG {fp:List Addr} {h:Heap} {p:Addr × Obj} (hp:p ∈ zlI fp h):p.1 ∈ fp∧h.get? p.1=some p.2:=by
 obtain ⟨b,hb,e⟩:=List.mem_filterMap.mp hp
 cases q:h.get? b with
 | none=>rw [q] at e;cases e
 | some o =>
  rw [q] at e
  have e':(b,o)=p:=Option.some.inj e
  subst e'
  exact ⟨hb,q⟩
theorem Inv.pinned {pins:List (Addr × Obj)} {σ:St} {H:Hp} {s:Shared} {fp:List Addr} (I:Inv X pins σ H s) (hf:∀ b ∈ fp,FpOk X pins H b) (ho:∀ b ∈ fp,∃ o,s.heap.get? b=some o∧∀ v,o.data ≠ .cell v):Inv X (pins ++ zlI fp s.heap) σ H s :=
 I.zmT fun p hp=>(List.mem_append.mp hp).elim (fun z=>I.pin p (List.mem_append_right _ z)) fun z=>by
  obtain ⟨hb,e⟩:=zoG z
  obtain ⟨f0,f1,f2,_⟩:=hf p.1 hb
  obtain ⟨o,e',d⟩:=ho p.1 hb
  rw [e] at e';cases e'
  exact ⟨e,f0,f1,f2,d⟩
theorem Inv.zio {pins pl:List (Addr × Obj)} {σ:St} {H:Hp} {s:Shared} (I:Inv X (pins ++ pl) σ H s):Inv X pins σ H s:=I.zmT fun p hp=>I.pin p (List.mem_append_right _ (List.mem_append_left _ hp))
theorem zvE {iter:Expr} {body:List Stmt} {wi:TI} {g:TG} {tb:TS} {pos:Pos} (hp:PassesOwn (model X.prog X.w) X.A X.env X.xe) (hc:X.calm=true) (hi:PI X tg iter wi) (hg:PG X tg g) (hb:PSs X body tb)
  (hs:∀ x,foldedSetIterable iter X.env x=pure x:=by intro _;rfl):PS X (.For tg iter body [] pos) (tFor wi g tb):=by
 intro pins s σ H D I h
 refine wpAny_For (thn (hi pins s σ H _ I h) fun v s1 h1=>thn h1 fun itv s2 h2=>?_) hs
 obtain ⟨it,fp,tn,J,H2,e,I2,T,st2,f2,W,⟨m0,w0⟩,turn⟩:=h2
 subst e
 have stat:∀ {H':Hp},(∀ b ∈ fp,H' b=none)→∀ b ∈ fp,FpOk X pins H' b:=fun hn b hb=>⟨hn b hb,(f2 b hb).2⟩
 refine codeAny_forLoop_any (fun n s'=>∃ i σ' H',Inv X pins σ' H' s'∧tn i s'.heap∧(∀ b ∈ fp,H' b=none)∧W i n σ' H') ?_ m0 ⟨0,σ,H2,I2,st2,fun b hb=>(f2 b hb).1,w0⟩
 rintro n s3 ⟨i,σ3,H3,I3,st3,fr3,w3⟩
 rcases turn i n σ3 H3 w3 with ⟨stop,qn⟩ | ⟨go,N,hN,step⟩
 ·refine wpAny_passesOwn hp (thn (T.done X rfl rfl rfl hc i pins s3 σ3 H3 X.xe I3 (stat fr3) st3 stop) fun r s4 ⟨hr,I4⟩=>?_)
  subst hr
  exact wpAny_execs_nil ⟨σ3,H3,I4,qn⟩
 ·refine wpAny_passesOwn hp (thn (T.item X rfl rfl rfl hc i pins s3 σ3 H3 X.xe I3 (stat fr3) st3 go) fun r s4 ⟨u,hr,h4⟩=>?_)
  subst hr
  refine wpAny_passesOwn hp (thn h4 fun _ s5 ⟨x,H5,I5,r5,y5,st5,fr5⟩=>?_)
  have I5':=I5.pinned (stat fr5) (T.obj _ _ st5)
  refine wpAny_passesOwn hp (thn (hg _ s5 σ3 H5 x u _ I5' r5 (step x H5 y5)) fun _ s6 ⟨σ6,H6,I6,q6⟩=>?_)
  refine wpAny_passesOwn hp (thn (hb _ s6 σ6 H6 _ I6 q6) fun f s7 q7=>?_)
  have again:∀ {σ7:St} {H7:Hp},Inv X (pins ++ zlI fp s5.heap) σ7 H7 s7→N σ7 H7→∃ m,m < n∧∃ i σ' H',Inv X pins σ' H' s7∧tn i s7.heap∧(∀ b ∈ fp,H' b=none)∧W i m σ' H':=fun {σ7 H7} I7 n7=>by
   obtain ⟨m',hm,w7⟩:=hN σ7 H7 n7
   refine ⟨m',hm,i + 1,σ7,H7,I7.zio,T.keep _ _ _ st5 fun b hb o e=>(I7.pin (b,o) (List.mem_append_right _ (List.mem_append_right _ (zge hb e)))).1,fun b hb=>?_,w7⟩
   obtain ⟨o,e,d⟩:=T.obj _ _ st5 b hb
   exact (I7.pin (b,o) (List.mem_append_right _ (List.mem_append_right _ (zge hb e)))).2.1
  cases f with
  | next=>obtain ⟨σ7,H7,I7,n7⟩:=q7;exact again I7 n7
  | cont=>obtain ⟨σ7,H7,I7,n7⟩:=q7;exact again I7 n7
  | brk=>obtain ⟨σ7,H7,I7,q7⟩:=q7;exact ⟨σ7,H7,I7.zio,q7⟩
  | ret v=>obtain ⟨x7,σ7,H7,I7,r7,q7⟩:=q7;exact ⟨x7,σ7,H7,I7.zio,r7,q7⟩
end
end L2
namespace L2
open PySem PySem.Spec PyProof.Rows
abbrev R2:=V→V→Hp→VK→Prop
def OpR (X:Cx) (f:Value→Value→Sem Value) (r:R2):Prop :=
 ∀ (pins:List (Addr × Obj)) (s:Shared) (σ:St) (H:Hp) (x y:V) (v u:Value) (Q:VK),Inv X pins σ H s→RelV x v→RelV y u→r x y H Q →
  wpAny (model X.prog X.w) X.A (f v u) (EP X pins σ Q) X.xe s
def UnR (X:Cx) (f:Value→Sem Value) (r:V→Hp→VK→Prop):Prop :=
 ∀ (pins:List (Addr × Obj)) (s:Shared) (σ:St) (H:Hp) (x:V) (v:Value) (Q:VK),Inv X pins σ H s→RelV x v→r x H Q →
  wpAny (model X.prog X.w) X.A (f v) (EP X pins σ Q) X.xe s
def zeR (X:Cx) (f:Value) (r:List V→Hp→VK→Prop):Prop :=
 ∀ (pins:List (Addr × Obj)) (s:Shared) (σ:St) (H:Hp) (xs:List V) (us:List Value) (Q:VK),Inv X pins σ H s→Vals xs us→r xs H Q →
  wpAny (model X.prog X.w) X.A (call f us) (EP X pins σ Q) X.xe s
def tOp (r:R2) (ta tb:TE):TE:=fun σ H Q=>ta σ H fun x H1=>tb σ H1 fun y H2=>r x y H2 Q
def tUn (r:V→Hp→VK→Prop) (ta:TE):TE:=fun σ H Q=>ta σ H fun x H1=>r x H1 Q
def rI (C:Int→Int→Prop) (g:Int→Int→V):R2:=fun x y H Q=>∃ i j,x = .int i∧y = .int j∧C i j∧Q (g i j) H
def rI0 (g:Int→Int→V):R2:=fun x y H Q=>∃ i j,x = .int i∧y = .int j∧Q (g i j) H
def rU (g:Int→V):V→Hp→VK→Prop:=fun x H Q=>∃ i,x = .int i∧Q (g i) H
section
variable {X:Cx} {a b c:Expr} {ta tb tc:TE} {pos:Pos}
theorem binT (ha:PE X a ta) (hb:PE X b tb) {pins:List (Addr × Obj)} {s:Shared} {σ:St} {H:Hp} {R:V→V→Hp→Prop} (I:Inv X pins σ H s)
  (h:ta σ H fun x H1=>tb σ H1 fun y H2=>R x y H2) {Q:Value→Shared→Prop} {f:Value→Value→Sem Value}
  (hf:∀ v u s2 x y H2,Inv X pins σ H2 s2→RelV x v→RelV y u→R x y H2→wpAny (model X.prog X.w) X.A (f v u) Q X.xe s2) :
  wpAny (model X.prog X.w) X.A (eval a X.env) (fun v s₁=>wpAny (model X.prog X.w) X.A (eval b X.env) (fun u s₂=>wpAny (model X.prog X.w) X.A (f v u) Q X.xe s₂) X.xe s₁) X.xe s:=by
 refine thn (ha pins s σ H _ I h) fun v s1 ⟨x,H1,I1,r1,q1⟩=>?_
 refine thn (hb pins s1 σ H1 _ I1 q1) fun u s2 ⟨y,H2,I2,r2,q2⟩=>?_
 exact hf v u s2 x y H2 I2 r1 r2 q2
theorem zv4 {op:Operator} {r:R2} (ho:OpR X (binaryOp op) r) (ha:PE X a ta) (hb:PE X b tb):PE X (.BinOp a op b pos) (tOp r ta tb):=by
 intro pins s σ H Q I h
 exact wpAny_BinOp (binT ha hb I h fun v u s2 x y H2 I2 rx ry q=>ho pins s2 σ H2 x y v u Q I2 rx ry q)
theorem zwJ {op:UnaryOp} {r:V→Hp→VK→Prop} (ho:UnR X (unaryOp op) r) (ha:PE X a ta):PE X (.UnaryOp op a pos) (tUn r ta):=by
 intro pins s σ H Q I h
 exact UnaryOp_ (thn (ha pins s σ H _ I h) fun v s1 ⟨x,H1,I1,r1,q1⟩=>ho pins s1 σ H1 x v Q I1 r1 q1)
theorem opI {f:Value→Value→Sem Value} {C:Int→Int→Prop} {g:Int→Int→Int}
  (rule:∀ (i j:Int) (t u:Tok) (s:Shared) (Q:Value→Shared→Prop) (E:Value→Shared→Prop),C i j→Q (.int (g i j) s.toks) { s with toks:=s.toks + 1 }→wpAny (model X.prog X.w) X.A (f (.int i t) (.int j u)) Q E s) :
  OpR X f (rI C fun i j => .int (g i j)):=by
 intro pins s σ H x y v u Q I rx ry h
 obtain ⟨i,j,rfl,rfl,hc,q⟩:=h
 obtain ⟨t,rfl⟩:=rx
 obtain ⟨t',rfl⟩:=ry
 exact rule i j t t' s _ _ hc ⟨.int (g i j),H,I.tok _,⟨_,rfl⟩,q⟩
theorem opI0 {f:Value→Value→Sem Value} {g:Int→Int→Int}
  (rule:∀ (i j:Int) (t u:Tok) (s:Shared) (Q:Value→Shared→Prop) (E:Value→Shared→Prop),Q (.int (g i j) s.toks) { s with toks:=s.toks + 1 }→wpAny (model X.prog X.w) X.A (f (.int i t) (.int j u)) Q E s) :
  OpR X f (rI0 fun i j => .int (g i j)):=by
 intro pins s σ H x y v u Q I rx ry h
 obtain ⟨i,j,rfl,rfl,q⟩:=h
 obtain ⟨t,rfl⟩:=rx
 obtain ⟨t',rfl⟩:=ry
 exact rule i j t t' s _ _ ⟨.int (g i j),H,I.tok _,⟨_,rfl⟩,q⟩
theorem opB0 {f:Value→Value→Sem Value} {g:Int→Int→Bool}
  (rule:∀ (i j:Int) (t u:Tok) (s:Shared) (Q:Value→Shared→Prop) (E:Value→Shared→Prop),Q (.bool (g i j)) s→wpAny (model X.prog X.w) X.A (f (.int i t) (.int j u)) Q E s) :
  OpR X f (rI0 fun i j => .bl (g i j)):=by
 intro pins s σ H x y v u Q I rx ry h
 obtain ⟨i,j,rfl,rfl,q⟩:=h
 obtain ⟨t,rfl⟩:=rx
 obtain ⟨t',rfl⟩:=ry
 exact rule i j t t' s _ _ ⟨.bl (g i j),H,I,rfl,q⟩
def CDiv (i j:Int):Prop:=0 < j∧j < 1073741824
def CPow (i j:Int):Prop:=0 ≤ j∧j ≤ 1000000∧i.natAbs < 2 ^ 64
def CMul (i j:Int):Prop:=(-(2 ^ 64) < i∧i < 2 ^ 64)∨(-(2 ^ 64) < j∧j < 2 ^ 64)
theorem CMul.ok {i j:Int} (h:CMul i j):IntMulOk i j:=by
 rcases h with ⟨h1,h2⟩ | ⟨h1,h2⟩
 ·exact .of_left (intBits_le_64 h1 h2)
 ·exact .of_right (intBits_le_64 h1 h2)
theorem zvB:OpR X (binaryOp .Add) (rI0 fun i j => .int (i + j)):=opI0 fun _ _ _ _ _ _ _ q=>add_int q
theorem zvC:OpR X (binaryOp .Sub) (rI0 fun i j => .int (i - j)):=opI0 fun _ _ _ _ _ _ _ q=>sub_int q
theorem zvL:OpR X (binaryOp .Mult) (rI CMul fun i j => .int (i * j)):=opI fun _ _ _ _ _ _ _ hc q=>mul_int q hc.ok
theorem zt4:OpR X (binaryOp .FloorDiv) (rI CDiv fun i j => .int (i / j)):=opI fun i j _ _ _ _ _ hc q=>by
 have h1:(0:Int) < j:=hc.1
 have h2:j < 1073741824:=hc.2
 exact floordiv_int (by omega) (by rw [Int.fdiv_eq_ediv_of_nonneg i (by omega)];exact q) (.inl (PyProof.noPylong_small (by omega)))
theorem zvO:OpR X (binaryOp .Mod) (rI (fun _ j=>0 < j) fun i j => .int (i % j)):=opI fun i j _ _ _ _ _ hc q=>by
 have h1:(0:Int) < j:=hc
 exact mod_int' (by omega) (by rw [Int.fmod_eq_emod_of_nonneg i (by omega)];exact q)
theorem zvs:OpR X (binaryOp .Pow) (rI CPow fun i j => .int (i ^ j.toNat)):=opI fun _ _ _ _ _ _ _ hc q=>pow_int_small hc.1 hc.2.1 hc.2.2 q
theorem unI {f:Value→Sem Value} {g:Int→Int}
  (rule:∀ (i:Int) (t:Tok) (s:Shared) (Q:Value→Shared→Prop) (E:Value→Shared→Prop),Q (.int (g i) s.toks) { s with toks:=s.toks + 1 }→wpAny (model X.prog X.w) X.A (f (.int i t)) Q E s) :
  UnR X f (rU fun i => .int (g i)):=by
 intro pins s σ H x v Q I rx h
 obtain ⟨i,rfl,q⟩:=h
 obtain ⟨t,rfl⟩:=rx
 exact rule i t s _ _ ⟨.int (g i),H,I.tok _,⟨_,rfl⟩,q⟩
theorem zuk:UnR X (unaryOp .USub) (rU fun i => .int (-i)):=unI fun _ _ _ _ _ q=>neg_int q
end
theorem zvS {i j:Bool}:decide (V.bl i=V.bl j)=(i == j):=by
 rw [Bool.eq_iff_iff]
 simp
section
variable {X:Cx} {a b c:Expr} {ta tb tc:TE} {pos:Pos}
theorem zr7 {pins:List (Addr × Obj)} {σ:St} {H:Hp} {s:Shared} {Q:VK} {k k':Bool} (I:Inv X pins σ H s) (q:Q (.bl k) H) (e:k=k'):EP X pins σ Q (.bool k') s:=by
 subst e
 exact ⟨.bl k,H,I,rfl,q⟩
theorem zwf:OpR X (compareOp .Lt) (rI0 fun i j => .bl (decide (i < j))):=opB0 fun _ _ _ _ _ _ _ q=>lt_int q
theorem zv9:OpR X (compareOp .LtE) (rI0 fun i j => .bl (decide (i ≤ j))):=opB0 fun _ _ _ _ _ _ _ q=>le_int q
theorem zwn:OpR X (compareOp .Gt) (rI0 fun i j => .bl (decide (j < i))):=opB0 fun _ _ _ _ _ _ _ q=>gt_int q
theorem zvM:OpR X (compareOp .Is) (fun x y H Q=>y = .non∧Q (.bl (decide (x = .non))) H):=by
 intro pins s σ H x y v u Q I rx ry h
 obtain ⟨rfl,q⟩:=h
 cases ry
 refine is_none_gen (zr7 I q ?_)
 cases x <;> first
  | (cases rx;rfl)
  | (obtain ⟨t,rfl⟩:=rx;rfl)
theorem ztj:OpR X (compareOp .IsNot) (fun x y H Q=>y = .non∧Q (.bl (!decide (x = .non))) H):=by
 intro pins s σ H x y v u Q I rx ry h
 obtain ⟨rfl,q⟩:=h
 cases ry
 refine isnot_none_gen (zr7 I q ?_)
 cases x <;> first
  | (cases rx;rfl)
  | (obtain ⟨t,rfl⟩:=rx;rfl)
theorem OpR.or {f:Value→Value→Sem Value} {r r':R2} (h:OpR X f r) (h':OpR X f r'):OpR X f (fun x y H Q=>r x y H Q∨r' x y H Q):=by
 intro pins s σ H x y v u Q I rx ry q
 rcases q with q | q
 ·exact h pins s σ H x y v u Q I rx ry q
 ·exact h' pins s σ H x y v u Q I rx ry q
theorem zao (b:Expr) {op:CmpOp} (h:op ≠ .In:=by decide) (h2:op ≠ .NotIn:=by decide):behindInMarks op b=false:=by
 have e1:(op == CmpOp.In)=false:=by cases op <;> first | rfl | exact absurd rfl h
 have e2:(op == CmpOp.NotIn)=false:=by cases op <;> first | rfl | exact absurd rfl h2
 cases b <;> simp [behindInMarks,e1,e2]
theorem zsn {op:CmpOp} {r:R2} (ho:OpR X (compareOp op) r) (ha:PE X a ta) (hb:PE X b tb) (hm:behindInMarks op b=false):PE X (.Compare a [op] [b] pos) (tOp r ta tb):=by
 intro pins s σ H Q I h
 exact wpAny_Compare1 (binT ha hb I h fun v u s2 x y H2 I2 rx ry q=>ho pins s2 σ H2 x y v u Q I2 rx ry q) hm
def zuL (t:TE):TT:=fun σ H Q=>t σ H fun x H'=>∃ k,x = .bl k∧Q k H'
theorem zts {op:CmpOp} {r:R2} (ho:OpR X (compareOp op) r) (ha:PE X a ta) (hb:PE X b tb) (hm:behindInMarks op b=false):PT X (.Compare a [op] [b] pos) (zuL (tOp r ta tb)):=by
 intro pins s σ H Q I h
 refine wpAny_isTrue_Compare1 (thn (ha pins s σ H _ I h) fun v s1 ⟨x,H1,I1,r1,q1⟩=>thn (hb pins s1 σ H1 _ I1 q1) fun u s2 ⟨y,H2,I2,r2,q2⟩ =>
  thn (ho pins s2 σ H2 x y v u _ I2 r1 r2 q2) fun c s3 ⟨z,H3,I3,r3,k,e,q3⟩=>?_) hm
 subst e
 cases r3
 exact wpAny_truthy_bool ⟨H3,I3,q3⟩
theorem znd:(sizeLine:Nat) < 2 ^ 63:=by rw [sizeLine_eq];decide
theorem vals1 {x:V} {us:List Value} (r:Vals [x] us):∃ u,us=[u]∧RelV x u:=by
 cases r with
 | cons r1 r2=>cases r2;exact ⟨_,rfl,r1⟩
theorem vals2 {x y:V} {us:List Value} (r:Vals [x,y] us):∃ u w',us=[u,w']∧RelV x u∧RelV y w':=by
 cases r with
 | cons r1 r2 =>
  cases r2 with
  | cons r3 r4=>cases r4;exact ⟨_,_,rfl,r1,r3⟩
theorem zpu (hc:X.calm=true):zeR X (.builtin "max") (fun xs H Q=>∃ i j,xs=[.int i, .int j]∧Q (.int (if j > i then j else i)) H):=by
 intro pins s σ H xs us Q I r h
 obtain ⟨i,j,rfl,q⟩:=h
 obtain ⟨u,w',rfl,⟨t,rfl⟩,⟨t',rfl⟩⟩:=vals2 r
 refine max_two_ints (I.ok.hd hc) fun h' tk k=>⟨_,H,I.kept k,?_,q⟩
 by_cases hj:j > i
 ·rw [if_pos hj,if_pos hj];exact ⟨_,rfl⟩
 ·rw [if_neg hj,if_neg hj];exact ⟨_,rfl⟩
theorem zpe (hc:X.calm=true):zeR X (.builtin "min") (fun xs H Q=>∃ i j,xs=[.int i, .int j]∧Q (.int (if j < i then j else i)) H):=by
 intro pins s σ H xs us Q I r h
 obtain ⟨i,j,rfl,q⟩:=h
 obtain ⟨u,w',rfl,⟨t,rfl⟩,⟨t',rfl⟩⟩:=vals2 r
 refine min_two_ints (I.ok.hd hc) fun h' tk k=>⟨_,H,I.kept k,?_,q⟩
 by_cases hj:j < i
 ·rw [if_pos hj,if_pos hj];exact ⟨_,rfl⟩
 ·rw [if_neg hj,if_neg hj];exact ⟨_,rfl⟩
theorem zpd:zeR X (.type "int") (fun xs H Q=>(∃ i,xs=[.int i]∧Q (.int i) H)∨∃ k,xs=[.bl k]∧Q (.int (if k then 1 else 0)) H):=by
 intro pins s σ H xs us Q I r h
 rcases h with ⟨i,rfl,q⟩ | ⟨k,rfl,q⟩
 ·obtain ⟨u,rfl,t,rfl⟩:=vals1 r
  exact call_int_int ⟨.int i,H,I,⟨_,rfl⟩,q⟩
 ·obtain ⟨u,rfl,r1⟩:=vals1 r
  cases r1
  exact call_int_bool ⟨.int (if k then 1 else 0),H,I.tok _,⟨_,rfl⟩,q⟩
end
end L2
namespace L2
open PySem PySem.Spec PyProof.Rows
structure ObjM (h:Heap) (x dx C:Addr) (mA:Str→Option Value):Prop where
 obj:h.get? x=some (PySem.W.instObj C dx)
 ns:h.Ns1 dx mA
 ne:dx ≠ x
theorem zpr {h:Heap} {dx:Addr} {mA:Str→Option Value} (n:h.Ns1 dx mA):∃ od,h.get? dx=some od∧∀ name,PySem.W.lookIn name od=some (mA name):=by
 obtain ⟨o,es,ep,ho,hd,hk,_,hm⟩:=n
 refine ⟨o,ho,fun name=>?_⟩
 have e:=hm name
 unfold nsFind findBy at e
 rw [← Array.find?_toList] at e
 unfold PySem.W.lookIn
 rw [hd]
 dsimp only
 split
 ·rename_i y q
  rw [q] at e
  exact congrArg some e
 ·rename_i q
  rw [q] at e
  have a:es.toList.any (·.refKey)=false:=by
   rw [List.any_eq_false]
   intro y hy
   obtain ⟨z,t,hkey⟩:=hk y (Array.mem_toList_iff.mp hy)
   simp [DictEntry.refKey,hkey]
  have a':¬ es.toList.any (·.refKey)=true:=by rw [a];exact Bool.false_ne_true
  rw [if_neg a']
  exact congrArg some e
theorem ObjM.look {h:Heap} {x dx C:Addr} {mA:Str→Option Value} (I:ObjM h x dx C mA):∃ od,PySem.W.InstAt h x (PySem.W.instObj C dx) C (some od)∧∀ name,PySem.W.lookIn name od=some (mA name) :=
 let ⟨od,ho,hl⟩:=zpr I.ns
 ⟨od,⟨I.obj,rfl,rfl,ho⟩,hl⟩
section
variable {prog:Program} {w:World} {A:Around} {E:Value→Shared→Prop} {s:Shared} {K:PySem.W.Frag} {x dx C f:Addr} {mA:Str→Option Value} {name:Str} {v:Value}
end
theorem RelO.some_of {v:V} {o:Option Value} (r:RelO (some v) o):∃ u,o=some u∧RelV v u:=by
 cases o with
 | none=>exact (show False from r).elim
 | some u=>exact ⟨u,rfl,r⟩
theorem zoU {v:V} {u:Value} (r:RelV v u):PySem.W.handedIn u=true:=by
 cases v with
 | non=>cases (show u=Value.none from r);rfl
 | bl b=>cases (show u=Value.bool b from r);rfl
 | int i=>obtain ⟨t,e⟩:=(show ∃ t,u=Value.int i t from r);cases e;rfl
 | str x=>obtain ⟨t,e⟩:=(show ∃ t,u=Value.str x t from r);cases e;rfl
 | byt b=>obtain ⟨t,e⟩:=(show ∃ t,u=Value.bytes b t from r);cases e;rfl
 | flt b=>obtain ⟨t,e⟩:=(show ∃ t,u=Value.float b t from r);cases e;rfl
 | ref a=>cases (show u=Value.ref a from r);rfl
 | ty n=>cases (show u=Value.type n from r);rfl
section
variable {P:Program} {w:World} {H H':Hp} {h h':Heap} {a C dx:Addr} {fs fs':List (Str × V)}
theorem zua (hok:HOk P w H h) (e:H a=some (.ins C dx fs)):∃ mA,ObjM h a dx C mA∧(∀ f,RelO (fs.lookup f) (mA f))∧PySem.Within mA (fs.map (·.1))∧fs.length ≤ 1000∧H dx=some (.own a):=by
 obtain ⟨d,z,ne,ob,mA,n,r,q⟩:=(show zc1 P w H h a (.ins C dx fs) from hok a _ e)
 exact ⟨mA,⟨ob,n,ne⟩,r,q,z,d⟩
end
structure Cls (K:PySem.W.Frag) (C:Addr):Prop where
 pg:PySem.W.plainGet K C Str.empty=true
 hd:PySem.W.hasDictIn K C=true
 po:PySem.W.plainOver K C=true
 sa:PySem.W.findIn K (.ref C) "__setattr__" = some (some (.builtin "object.__setattr__"))
theorem Cls.get {K:PySem.W.Frag} {C:Addr} (c:Cls K C) (f:Str):PySem.W.plainGet K C f=true:=c.pg
structure Con (K:PySem.W.Frag) (C:Addr) (f:Str) (v:V) (u:Value):Prop where
 at_:PySem.W.findIn K (.ref C) f=some (some u)
 rel:RelV v u
 get:PySem.W.specialIn K u "__get__" = some none
 cp:PySem.W.copiedNames.contains f=false
structure Meth (K:PySem.W.Frag) (C:Addr) (m:Str) (f:Addr):Prop where
 at_:PySem.W.findIn K (.ref C) m=some (some (.ref f))
 fn:PySem.W.isFn K (.ref f)=true
 kp:PySem.W.keepIn K (.ref f)=true
section
variable {X:Cx} {pins:List (Addr × Obj)} {σ:St} {H:Hp} {s:Shared} {a C dx:Addr} {fs:List (Str × V)} {f:Str} {v:V} {A:Around} {E:Value→Shared→Prop}
theorem Inv.made (I:Inv X pins σ H s):Inv X pins σ (upd (upd H s.heap.objs.size (.own (s.heap.objs.size + 1))) (s.heap.objs.size + 1) (.ins C s.heap.objs.size []))
  { s with heap:=(s.heap.push PySem.W.emptyDict).push (PySem.W.instObj C s.heap.objs.size) }:=by
 have e1:(s.heap.push PySem.W.emptyDict).get? s.heap.objs.size=some PySem.W.emptyDict:=Heap.get?_push_size s.heap rfl
 have e2:((s.heap.push PySem.W.emptyDict).push (PySem.W.instObj C s.heap.objs.size)).get? (s.heap.objs.size + 1)=some (PySem.W.instObj C s.heap.objs.size):=by
  have:=Heap.get?_push_size (s.heap.push PySem.W.emptyDict) (o:=PySem.W.instObj C s.heap.objs.size) rfl
  rwa [Heap.size_push] at this
 have e3:(s.heap.push PySem.W.emptyDict).Ns s.heap.objs.size (fun _=>none):=⟨PySem.W.emptyDict,#[],_,e1,rfl,(fun e he=>absurd he (by simp)),fun _=>rfl⟩
 have I1:=I.laid (a:=s.heap.objs.size) (o := .own (s.heap.objs.size + 1)) (h':=s.heap.push PySem.W.emptyDict) (t':=s.toks) (fun b u q=>Heap.get?_push_of_some _ q) (Nat.le_refl _) ⟨_,e1⟩
 refine I1.laid (a:=s.heap.objs.size + 1) (o := .ins C s.heap.objs.size []) (t':=s.toks) (fun b u q=>Heap.get?_push_of_some _ q) (Nat.le_of_eq (Heap.size_push _ _)) ?_
 have ne:s.heap.objs.size ≠ s.heap.objs.size + 1:=Nat.ne_of_lt (Nat.lt_succ_self _)
 refine ⟨by rw [zat ne,zaI],Nat.zero_le _,ne,e2,fun _=>none,(Heap.Ns1.of_empty e3).at fun o q=>Heap.get?_push_of_some _ q,fun _=>True.intro,fun y hy=>absurd rfl hy⟩
theorem zqy {prog:Program} {w:World} {env:Env} {e:Expr} {f:Str} {pos:Pos} {s:Shared} {Q:Value→Shared→Prop} (hb:attributeBase e f env (eval e env)=eval e env)
  (h:wpAny (model prog w) A (eval e env) (fun o s₁=>wpAny (model prog w) A (getAttr o f true) Q E s₁) E s):wpAny (model prog w) A (eval (.Attribute e f pos) env) Q E s :=
 Attribute_any_ h (by rw [arm_eval_Attribute,hb])
end
section
variable {X:Cx} {o e value:Expr} {f:Str} {pos pos' tpos:Pos} {ta tv:TE}
end
section
variable {X:Cx} {pins:List (Addr × Obj)} {σ:St} {H:Hp} {s:Shared} {A:Around} {E:Value→Shared→Prop} {Q:Value→Shared→Prop} {c:Value} {b:Bool}
inductive TyOf (K:PySem.W.Frag) (H:Hp):V→Value→Prop where
 | non:TyOf K H .non (.type "NoneType")
 | bl (x:Bool):TyOf K H (.bl x) (.type "bool")
 | int (i:Int):TyOf K H (.int i) (.type "int")
 | str (x:Str):TyOf K H (.str x) (.type "str")
 | flt (x:UInt64):TyOf K H (.flt x) (.type "float")
 | lst {a:Addr} {xs:List V} (e:H a=some (.lst xs)):TyOf K H (.ref a) (.type "list")
 | frz {a:Addr} {o:Obj} {xs:List V} (e:H a=some (.frz o (.lst xs))):TyOf K H (.ref a) (.type "list")
 | tup {a:Addr} {xs:List V} (e:H a=some (.tup xs)):TyOf K H (.ref a) (.type "tuple")
 | dK {a:Addr} {kvs:List (Key × V)} (e:H a=some (.dK kvs)):TyOf K H (.ref a) (.type "dict")
 | dT {a:Addr} {kvs:List (List Key × V)} (e:H a=some (.dT kvs)):TyOf K H (.ref a) (.type "dict")
 | ins {a C dx:Addr} {fs:List (Str × V)} (e:H a=some (.ins C dx fs)) (cl:Cls K C) (ha:PySem.W.findIn K (.ref C) "__class__" = some (some (.builtin "object.__class__")))
   (hn:PySem.W.specialIn K (.builtin "object.__class__") "__get__" = some (some (.builtin "getset_descriptor.__get__"))) (htk:PySem.W.takesIn K (.builtin "object.__class__")=some true)
   (hm:PySem.W.mroIn K C (.type "object")=some true):TyOf K H (.ref a) (.ref C)
theorem zqc {x:V} {u t:Value} (I:Inv X pins σ H s) (rx:RelV x u) (ty:TyOf X.K H x t) (e:PySem.W.kitOne X.K t c=some b) (h:∀ tk,Q (.bool b) { s with toks:=tk }) :
  wpAny (model X.prog X.w) A (call (.builtin "isinstance") [u,c]) Q E s:=by
 cases ty with
 | non=>cases (show u=Value.none from rx);exact PySem.W.kia_one PySem.W.kitx_none I.kIn True.intro e (fun z=>nomatch z) h
 | bl y=>cases (show u=Value.bool y from rx);exact PySem.W.kia_one PySem.W.kitx_bool I.kIn True.intro e (fun z=>nomatch z) h
 | int i=>obtain ⟨t,q⟩:=(show ∃ t,u=Value.int i t from rx);cases q;exact PySem.W.kia_one PySem.W.kitx_int I.kIn True.intro e (fun z=>nomatch z) h
 | str y=>obtain ⟨t,q⟩:=(show ∃ t,u=Value.str y t from rx);cases q;exact PySem.W.kia_one PySem.W.kitx_str I.kIn True.intro e (fun z=>nomatch z) h
 | flt y=>obtain ⟨t,q⟩:=(show ∃ t,u=Value.float y t from rx);cases q;exact PySem.W.kia_one PySem.W.kitx_float I.kIn True.intro e (fun z=>nomatch z) h
 | @lst a xs ea =>
  cases (show u=Value.ref a from rx)
  obtain ⟨_,_,n,_,h1⟩:=(show zc1 X.prog X.w H s.heap a (.lst xs) from I.hok a _ ea)
  exact PySem.W.kia_one PySem.W.kitx_list I.kIn ⟨_,h1,rfl⟩ e (fun z=>nomatch z) h
 | @frz a ob xs ea =>
  cases (show u=Value.ref a from rx)
  obtain ⟨_,_,_,n,_,h1⟩:=(show zc1 X.prog X.w H s.heap a (.frz ob (.lst xs)) from I.hok a _ ea)
  exact PySem.W.kia_one PySem.W.kitx_list I.kIn ⟨_,h1,rfl⟩ e (fun z=>nomatch z) h
 | @tup a xs ea =>
  cases (show u=Value.ref a from rx)
  obtain ⟨_,_,_,p⟩:=(show zc1 X.prog X.w H s.heap a (.tup xs) from I.hok a _ ea)
  obtain ⟨o,h1,h2,_⟩:=p
  exact PySem.W.kia_one PySem.W.kitx_tuple I.kIn ⟨o,h1,h2⟩ e (fun z=>nomatch z) h
 | @dK a kvs ea =>
  cases (show u=Value.ref a from rx)
  obtain ⟨_,_,vs,_,p⟩:=(show zc1 X.prog X.w H s.heap a (.dK kvs) from I.hok a _ ea)
  obtain ⟨o,es,ep,h1,h2,_⟩:=p
  exact PySem.W.kia_one PySem.W.kitx_dict I.kIn ⟨o,h1,h2.1⟩ e (fun z=>nomatch z) h
 | @dT a kvs ea =>
  cases (show u=Value.ref a from rx)
  obtain ⟨_,_,xs,_,o,es,ep,h1,h2,_⟩:=(show zc1 X.prog X.w H s.heap a (.dT kvs) from I.hok a _ ea)
  exact PySem.W.kia_one PySem.W.kitx_dict I.kIn ⟨o,h1,h2.1⟩ e (fun z=>nomatch z) h
 | @ins a C dx fs ea cl ha hn htk hm =>
  cases (show u=Value.ref a from rx)
  obtain ⟨mA,O,_⟩:=zua I.hok ea
  obtain ⟨od,J,_⟩:=O.look
  exact PySem.W.kia_one (PySem.W.kitx_own (cl.get _) cl.hd ha hn htk hm) I.kIn J e (fun z=>nomatch z) h
end
end L2
namespace L2
open PySem PySem.Spec PyProof.Rows
structure Room (k:Nat) (A:Around):Prop where
 hd:A.handled=none
 dp:A.depth + 3 * k + 5 < recursionLimit
 un:A.units + 16 * k + 200 < cLine
theorem Room.mono {j k:Nat} {A:Around} (r:Room k A) (h:j ≤ k):Room j A:=⟨r.hd,by have:=r.dp;omega,by have:=r.un;omega⟩
theorem Room.deeper {k:Nat} {A:Around} (r:Room (k + 1) A) (env:Env):Room k (A.deeper env) :=
 ⟨r.hd,by have:=r.dp;show A.depth + 1 + 3 * k + 5 < _;omega,by have:=r.un;show A.units + 3 + 16 * k + 200 < _;omega⟩
theorem zn3 {A:Around} {C:Addr} {us:List Value} {kw:List (Str × Value)}:(A.under (.builtin "type.__call__" ⟨.ref C :: us,kw⟩)).depth=A.depth + 1:=by
 first | rfl | simp [Around.under,Code.weight,Code.isCreation,Code.isGuard,Code.isCaller,Code.frames,Code.isFrame,guardIds]
theorem zos {A:Around} {C:Addr} {us:List Value} {kw:List (Str × Value)}:(A.under (.builtin "type.__call__" ⟨.ref C :: us,kw⟩)).units=A.units + 1:=by
 first | rfl | simp [Around.under,Code.cUnits,Code.frames,Code.isFrame]
theorem Room.make {k:Nat} {A:Around} (r:Room (k + 1) A) (C:Addr) (us:List Value) (kw:List (Str × Value)):Room k (A.under (.builtin "type.__call__" ⟨.ref C :: us,kw⟩)) :=
 ⟨r.hd,by have:=r.dp;rw [zn3];omega,by have:=r.un;rw [zos];omega⟩
theorem Room.depth {k:Nat} {A:Around} (r:Room k A):A.depth < recursionLimit:=by have:=r.dp;omega
theorem Room.units {k:Nat} {A:Around} (r:Room k A):A.units + 64 < cLine:=by have:=r.un;omega
def tNil:TA:=fun _ H Q=>Q [] H
def zww (ta:TE) (tr:TA):TA:=fun σ H Q=>ta σ H fun x H1=>tr σ H1 fun xs H2=>Q (x :: xs) H2
section
variable {X:Cx} {e:Expr} {es:List Expr} {te:TE} {t:TA} {pos:Pos}
theorem zl9:PA X [] tNil:=fun _ _ _ _ H Q I h=>Calls.spliced_nil ⟨[],H,I, .nil,h⟩
theorem zhE (ha:PE X e te) (hr:PA X es t) (hs:starEach (e :: es) X.env=(false,eval e X.env) :: starEach es X.env:=by rfl):PA X (e :: es) (zww te t):=by
 intro pos pins s σ H Q I h
 rw [hs]
 show wpAny _ _ (spliced ((false,eval e X.env) :: backTo pos (starEach es X.env))) _ _ s
 refine Calls.spliced_cons (thn (ha pins s σ H _ I h) fun u s1 ⟨x,H1,I1,r1,q1⟩=>?_)
 exact thn (hr pos pins s1 σ H1 _ I1 q1) fun us s2 ⟨xs,H2,I2,r2,q2⟩=>⟨x :: xs,H2,I2, .cons r1 r2,q2⟩
def tTup (t:TA):TE:=fun σ H Q=>t σ H fun xs H1=>xs.length ≤ sizeLine∧∀ p,H1 p=none→Q (.ref p) (upd H1 p (.tup xs))
def tLst (t:TA):TE:=fun σ H Q=>t σ H fun xs H1=>xs.length ≤ sizeLine∧∀ p,H1 p=none→Q (.ref p) (upd H1 p (.lst xs))
theorem zuM {x1} (h:PA X es t):PE X (.Tuple es x1 pos) (tTup t):=by
 intro pins s σ H Q I hq
 refine wpAny_Tuple_spliced (thn (h pos pins s σ H _ I hq) fun us s1 ⟨xs,H1,I1,r,z,q⟩=>⟨by rw [← r.length];exact z,?_⟩)
 have hf:H1 s1.heap.objs.size=none:=I1.hok.fresh (Nat.le_refl _)
 refine ⟨.ref s1.heap.objs.size,upd H1 s1.heap.objs.size (.tup xs),I1.laid (t':=s1.toks) (fun b u e=>Heap.get?_push_of_some _ e) (Nat.le_refl _) ?_,rfl,q _ hf⟩
 exact ⟨z,us,r,⟨_,Heap.get?_push_size _ rfl,rfl,_,rfl⟩⟩
theorem zvt (h:PA X es t):PE X (.List es pos) (tLst t):=by
 intro pins s σ H Q I hq
 refine wpAny_List_spliced (thn (h pos pins s σ H _ I hq) fun us s1 ⟨xs,H1,I1,r,z,q⟩=>⟨by rw [← r.length];exact z,?_⟩)
 have hf:H1 s1.heap.objs.size=none:=I1.hok.fresh (Nat.le_refl _)
 refine ⟨.ref s1.heap.objs.size,upd H1 s1.heap.objs.size (.lst xs),I1.laid (t':=s1.toks) (fun b u e=>Heap.get?_push_of_some _ e) (Nat.le_refl _) ?_,rfl,q _ hf⟩
 exact ⟨z,us,0,r,Heap.get?_push_size _ rfl⟩
end
abbrev Sp:=List V→Hp→VK→XK→Prop
abbrev CXT:=List Env→Hp→Shared→XK→Value→Shared→Prop
structure Env0 (P:Program) (w:World) (K:PySem.W.Frag) (mg:Str→Option Value) (base:Heap) (A:Around) (outer:List Env) (s:Shared) (H:Hp):Prop where
 frames:A.frames=some outer
 mod:Mod K mg base
 bs:∀ b o,base.get? b=some o→s.heap.get? b=some o∧H b=none
 bsz:base.objs.size ≤ s.heap.objs.size
 funs:s.heap.FunFrames base outer
 frf:∀ b ∈ frs outer,H b=none
 hok:HOk P w H s.heap
 bare:AllBare s.gens
def CE (outer:List Env) (P:Program) (w:World) (H:Hp) (s:Shared) (Q:VK) (u:Value) (s':Shared):Prop :=
 ∃ v H',s'.os=s.os∧AllBare s'.gens∧Un (frs outer) [] H H' s.heap s'.heap∧HOk P w H' s'.heap∧RelV v u∧Q v H'
def CR (CX:CXT) (outer:List Env) (P:Program) (w:World) (H:Hp) (s:Shared) (Q:VK) (E:XK) (r:Result) (s':Shared):Prop :=
 match r with
 | .ok (.ret u)=>CE outer P w H s Q u s'
 | .ok _=>False
 | .error e=>CX outer H s E e s'
structure FnOk (P:Program) (w:World) (K:PySem.W.Frag) (mg:Str→Option Value) (base:Heap) (CX:CXT) (k:Nat) (f:Addr) (fd:FuncData) (ps:List Str) (sp:Sp):Prop where
 len:∀ vs H Q E,sp vs H Q E→vs.length=ps.length
 run:∀ (A:Around) (outer:List Env) (s:Shared) (H:Hp) (args:Args) (us:List Value) (vs:List V) (Q:VK) (E:XK),Room k A→Env0 P w K mg base A outer s H→BindsTo s fd args (ps.zip us)→Vals vs us→sp vs H Q E →
  codeAny (model P w) A (.call (.ref f) args) (CR CX outer P w H s Q E) s
theorem FnOk.mono {P:Program} {w:World} {K:PySem.W.Frag} {mg:Str→Option Value} {base:Heap} {CX:CXT} {j k:Nat} {f:Addr} {fd:FuncData} {ps:List Str} {sp:Sp} (F:FnOk P w K mg base CX j f fd ps sp) (h:j ≤ k) :
  FnOk P w K mg base CX k f fd ps sp:=⟨F.len,fun A outer s H args us vs Q E hr=>F.run A outer s H args us vs Q E (hr.mono h)⟩
theorem FnOk.imp {P:Program} {w:World} {K:PySem.W.Frag} {mg:Str→Option Value} {base:Heap} {CX:CXT} {k:Nat} {f:Addr} {fd:FuncData} {ps:List Str} {sp sp':Sp} (F:FnOk P w K mg base CX k f fd ps sp)
  (h:∀ vs H Q E,sp' vs H Q E→sp vs H Q E):FnOk P w K mg base CX k f fd ps sp' :=
 ⟨fun vs H Q E q=>F.len vs H Q E (h _ _ _ _ q),fun A outer s H args us vs Q E hr he hb hv hs=>F.run A outer s H args us vs Q E hr he hb hv (h _ _ _ _ hs)⟩
theorem Env0.make {P:Program} {w:World} {K:PySem.W.Frag} {mg:Str→Option Value} {base:Heap} {A:Around} {outer:List Env} {s:Shared} {H:Hp} (e:Env0 P w K mg base A outer s H) (C:Addr) (us:List Value) (kw:List (Str × Value)) :
  Env0 P w K mg base (A.under (.builtin "type.__call__" ⟨.ref C :: us,kw⟩)) outer s H:=⟨by first | exact e.frames | (simpa [Around.under,Code.envs,Code.isFrame,pushEnvs] using e.frames),e.mod,e.bs,e.bsz,e.funs,e.frf,e.hok,e.bare⟩
section
variable {X:Cx} {pins:List (Addr × Obj)} {σ:St} {H:Hp} {s s':Shared}
theorem Inv.env0 (I:Inv X pins σ H s):Env0 X.prog X.w X.K X.mg X.base X.A X.stack s H :=
 ⟨I.ok.frames,I.ok.mod,I.bs,Nat.le_trans I.ok.bsz I.sz,I.stack,I.zmz,I.hok,I.bare⟩
theorem Inv.after {Q:VK} {u:Value} (I:Inv X pins σ H s) (h:CE X.stack X.prog X.w H s Q u s'):EP X pins σ Q u s':=by
 obtain ⟨v,H',os,bare,un,hok,r,q⟩:=h
 obtain ⟨hh,g,d,t,os'⟩:=s'
 obtain rfl:os'=s.os:=os
 exact ⟨v,H',I.call (h':=hh) (g':=g) (d':=d) (t':=t) (ch:=[]) un hok bare (fun b z=>absurd z (by simp)),r,q⟩
end
def zsR (sp:Sp) (dvs:List V) (E:XK) (t:TA):TE:=fun σ H Q=>t σ H fun vs H1=>sp (vs ++ dvs) H1 Q E
def Binds (K:PySem.W.Frag) (fd:FuncData) (ps:List Str) (ds:List Value):Prop :=
 ∀ (s:Shared) (us:List Value),K.In s.heap→(us ++ ds).length=ps.length→BindsTo s fd ⟨us,[]⟩ (ps.zip (us ++ ds))
theorem Binds.all {K:PySem.W.Frag} {fd:FuncData} {ps:List Str} (h:∀ us:List Value,us.length=ps.length→bindArgs fd ⟨us,[]⟩ = pure (ps.zip us)):Binds K fd ps []:=fun s us _ hl=>by
 rw [List.append_nil] at hl ⊢
 exact .of_eq (h us hl)
def Passes (CX:CXT) (X:Cx) (E:XK):Prop:=∀ (pins:List (Addr × Obj)) (σ:St) (H:Hp) (s:Shared) (e:Value) (s':Shared),Inv X pins σ H s→CX X.stack H s E e s'→X.xe e s'
section
variable {X:Cx} {CX:CXT} {k:Nat} {f C:Addr} {fd:FuncData} {ps:List Str} {sp:Sp} {dvs:List V} {ds:List Value} {E:XK} {x m:Str} {p pos apos:Pos} {e o:Expr} {es:List Expr} {ta:TE} {t:TA}
theorem zuH {pins:List (Addr × Obj)} {σ:St} {H:Hp} {s:Shared} {Q:VK} {us:List Value} {vs:List V} (F:FnOk X.prog X.w X.K X.mg X.base CX k f fd ps sp) (hr:Room k X.A) (hb:Binds X.K fd ps ds) (hd:Vals dvs ds) (hx:Passes CX X E)
  (I:Inv X pins σ H s) (r:Vals vs us) (h:sp (vs ++ dvs) H Q E):wpAny (model X.prog X.w) X.A (call (.ref f) us) (EP X pins σ Q) X.xe s:=by
 have r2:Vals (vs ++ dvs) (us ++ ds):=r.append hd
 have hl:(us ++ ds).length=ps.length:=by rw [← r2.length];exact F.len _ _ _ _ h
 refine wpAny_call (codeAny_mono (F.run X.A X.stack s H ⟨us,[]⟩ (us ++ ds) (vs ++ dvs) Q E hr I.env0 (hb s us I.kIn hl) r2 h) fun r s' hq=>?_)
 cases r with
 | error e=>exact hx pins σ H s e s' I hq
 | ok fl =>
  cases fl with
  | ret u=>exact I.after hq
  | next=>exact False.elim hq
  | brk=>exact False.elim hq
  | cont=>exact False.elim hq
theorem ztP (F:FnOk X.prog X.w X.K X.mg X.base CX k f fd ps sp) (hr:Room k X.A) (hg:Gl X x) (hm:X.mg x=some (.ref f)) (hk:PySem.W.keepIn X.K (.ref f)=true) (hb:Binds X.K fd ps ds) (hd:Vals dvs ds) (hx:Passes CX X E)
  (ha:PA X (e :: es) t) (hdb:(x == ("__debug__" : Str))=false:=by decide) (he:starEach (e :: es) X.env=(false,eval e X.env) :: starEach es X.env:=by rfl) (hpl:(backTo pos (starEach es X.env)).any (·.1)=false:=by rfl) :
  PE X (.Call (.Name x p) (e :: es) [] pos) (zsR sp dvs E t):=by
 intro pins s σ H Q I h
 refine wpAny_Call_Name_kw (zfW I hg hm ?_ hdb)
 refine PySem.W.callWith_K (h₀:=X.base) I.ok.mod.kin hk (thn (ha pos pins s σ H _ I h) fun us s1 ⟨vs,H1,I1,r,q⟩=>⟨I1.kIn,?_⟩) he hpl
 exact zuH F hr hb hd hx I1 r q
structure Mk (K:PySem.W.Frag) (C f:Addr):Prop where
 makes:PySem.W.makesIn K C=true
 init:PySem.W.findIn K (.ref C) "__init__" = some (some (.ref f))
 fn:PySem.W.isFn K (.ref f)=true
 kp:PySem.W.keepIn K (.ref C)=true
end
section
variable {X:Cx} {CX:CXT} {k:Nat} {f C:Addr} {fd:FuncData} {ps ks:List Str} {sp:Sp} {E:XK} {x m:Str} {p pos apos kpos:Pos} {e o:Expr} {es:List Expr} {kws:List Keyword} {te ta:TE} {t tk:TA} {nm:Option Str}
structure zwU (K:PySem.W.Frag) (fd:FuncData) (ps ks:List Str) (g:List Value→List Value→List Value) (gV:List V→List V→List V):Prop where
 to:∀ (s:Shared) (us ws:List Value),K.In s.heap→(g us ws).length=ps.length→BindsTo s fd ⟨us,ks.zip ws⟩ (ps.zip (g us ws))
 rel:∀ {vs:List V} {us:List Value} {zs:List V} {ws:List Value},Vals vs us→Vals zs ws→Vals (gV vs zs) (g us ws)
variable {g:List Value→List Value→List Value} {gV:List V→List V→List V}
end
structure zaz (N P:List Str) (sc:Scope):Prop where
 kind:sc.kind = .function
 co:sc.isCoroutine=false
 gen:sc.isGenerator=false
 nd:N.Nodup
 pre:N.take P.length=P
 par:∀ x ∈ P,sc.names.lookup x=some .local∨sc.names.lookup x=some .cell
 nofree:∀ y ∈ sc.names,y.2 ≠ .free
theorem zls {kindOf:Str→Option NameKind} {x:Str}:∀ {binds:List (Str × Value)} {m:Str→Option Value},(∀ v,(x,v) ∉ binds)→bindL kindOf binds m x=m x
 | [],_,_=>rfl
 | (n,v) :: r,m,h=>by
  unfold bindL
  rw [zls fun w hw=>h w (List.mem_cons_of_mem _ hw)]
  split
  ·have:x ≠ n:=by rintro rfl;exact h v List.mem_cons_self
   simp [this]
  ·rfl
theorem zlN {kindOf:Str→Option NameKind} {x:Str}:∀ {binds:List (Str × Value)} {m:Str→Option Value},(∀ v,(x,v) ∉ binds)→bindC kindOf binds m x=m x
 | [],_,_=>rfl
 | (n,v) :: r,m,h=>by
  unfold bindC
  rw [zlN fun w hw=>h w (List.mem_cons_of_mem _ hw)]
  split
  ·rfl
  ·have:x ≠ n:=by rintro rfl;exact h v List.mem_cons_self
   simp [this]
theorem zl8 {kindOf:Str→Option NameKind} {x:Str} {v:Value}:∀ {P:List Str} {vs:List Value} {i:Nat} {m:Str→Option Value},P.Nodup→P[i]? = some x→vs[i]? = some v→kindOf x=some .local →
  bindL kindOf (P.zip vs) m x=some v
 | [],_,_,_,_,h,_,_=>by simp at h
 | _ :: _,[],_,_,_,_,h,_=>by simp at h
 | p :: P,w :: vs,0,m,nd,h1,h2,hk=>by
  simp at h1 h2;subst h1;subst h2
  show bindL kindOf ((p,w) :: P.zip vs) m p=_
  unfold bindL
  rw [zls fun v hv=>(List.nodup_cons.mp nd).1 (List.of_mem_zip hv).1,if_pos hk]
  simp
 | p :: P,w :: vs,i + 1,m,nd,h1,h2,hk=>by
  show bindL kindOf ((p,w) :: P.zip vs) m x=_
  unfold bindL
  exact zl8 (i:=i) (List.nodup_cons.mp nd).2 (by simpa using h1) (by simpa using h2) hk
theorem zlA {kindOf:Str→Option NameKind} {x:Str} {v:Value}:∀ {P:List Str} {vs:List Value} {i:Nat} {m:Str→Option Value},P.Nodup→P[i]? = some x→vs[i]? = some v→kindOf x ≠ some .local →
  bindC kindOf (P.zip vs) m x=some v
 | [],_,_,_,_,h,_,_=>by simp at h
 | _ :: _,[],_,_,_,_,h,_=>by simp at h
 | p :: P,w :: vs,0,m,nd,h1,h2,hk=>by
  simp at h1 h2;subst h1;subst h2
  show bindC kindOf ((p,w) :: P.zip vs) m p=_
  unfold bindC
  rw [zlN fun v hv=>(List.nodup_cons.mp nd).1 (List.of_mem_zip hv).1,if_neg hk]
  simp
 | p :: P,w :: vs,i + 1,m,nd,h1,h2,hk=>by
  show bindC kindOf ((p,w) :: P.zip vs) m x=_
  unfold bindC
  exact zlA (i:=i) (List.nodup_cons.mp nd).2 (by simpa using h1) (by simpa using h2) hk
def start (N:List Str) (vs:List V):St:=vs.map some ++ List.replicate (N.length - vs.length) none
def cxOf (CX:CXT) (P:Program) (w:World) (K:PySem.W.Frag) (mg:Str→Option Value) (base:Heap) (N:List Str) (qual:Str) (scope:Scope) (f:Addr) (cd:Value) (A:Around) (outer:List Env) (s:Shared) (H:Hp) (E:XK):Cx where
 prog:=P
 w:=w
 K:=K
 mg:=mg
 base:=base
 A:=A.deeper (envOfC qual scope s.heap.objs.size f cd)
 N:=N
 s₀:=s
 H₀:=H
 env:=envOfC qual scope s.heap.objs.size f cd
 outer:=outer
 stack:=envOfC qual scope s.heap.objs.size f cd :: outer
 ex:=[]
 calm:=true
 fn:=fun _=>true
 pn:=[]
 xe:=fun e s'=>wpAny (model P w) (A.deeper (envOfC qual scope s.heap.objs.size f cd)) (leaving (envOfC qual scope s.heap.objs.size f cd) e) (fun _ s''=>CX outer H s E e s'') (fun e' s''=>CX outer H s E e' s'') s'
theorem znR {sc:Scope} {n:Nat} {x:Str} (h:sc.names.lookup x=some .cell):∃ c,(cellsFrom n sc.names []).lookup x=some c:=by
 have q:=PySem.W.cellsFrom_some sc.names n [] (.inl h)
 exact Option.isSome_iff_exists.mp q
theorem zgT {CX:CXT} {P:Program} {w:World} {K:PySem.W.Frag} {mg:Str→Option Value} {base:Heap} {N ps:List Str} {qual:Str} {scope:Scope} {f:Addr} {cd:Value} {A:Around} {outer:List Env} {s s1:Shared} {H:Hp} {E:XK} {us:List Value} {vs:List V}
  (S:zaz N ps scope) (hd:A.handled=none) (e0:Env0 P w K mg base A outer s H) (hl:vs.length=ps.length) (r:Vals vs us)
  (x:InCallC s s.heap.objs.size (bindL (envOfC qual scope s.heap.objs.size f cd).kindOf (ps.zip us) fun _=>none) (cellsFrom (s.heap.objs.size + 1) scope.names []) (bindC (envOfC qual scope s.heap.objs.size f cd).kindOf (ps.zip us) fun _=>none) s1) :
  Inv (cxOf CX P w K mg base N qual scope f cd A outer s H E) [] (start N vs) H s1:=by
 have hpl:ps.length ≤ N.length:=by have:=congrArg List.length S.pre;rw [List.length_take] at this;omega
 obtain ⟨h1,tk,rfl,hk⟩:=x.done
 have noA:∀ b:Addr,b ∉ (cxOf CX P w K mg base N qual scope f cd A outer s H E).ex:=fun b z=>absurd (show b ∈ ([] : List Addr) from z) (by simp)
 refine ⟨⟨e0.mod,S.kind,rfl,rfl,Nat.le_refl _,fun y z c h1 h2=>?_,fun y hy=>?_,fun y c _ h=>?_,fun _=>hd,Around.frames_deeper e0.frames, .inr ⟨rfl,rfl⟩,fun b z=>absurd z (noA b),e0.bs,e0.bsz,fun b _ _=>noA b,fun b z=>absurd z (noA b),e0.funs,e0.frf⟩,
  rfl,e0.bare,Un.kept hk,⟨_,x.toInCall.ns,fun i y v h1 h2 h3=>?_⟩,fun y c h=>⟨_,x.cell y c h⟩,e0.hok.fresh (Nat.le_refl _),fun y c h=>?_,fun p hp=>absurd (show p ∈ ([] : List (Addr × Obj)) from hp) (by simp),e0.hok.kept hk,?_⟩
 ·exact name_of_addr x.apart (PySem.mem_of_lookup h1) (PySem.mem_of_lookup h2)
 ·have hy:scope.names.lookup y=some .cell∨scope.names.lookup y=some .free:=hy
  rcases hy with hy | hy
  ·exact znR hy
  ·exact absurd rfl (S.nofree _ (PySem.mem_of_lookup hy))
 ·exact Nat.le_of_lt (x.above y c (PySem.mem_of_lookup h))
 ·have hi:i < vs.length:=by
   unfold start at h2
   by_cases hi:i < vs.length
   ·exact hi
   ·rw [List.getElem?_append_right (by simpa using hi)] at h2
    rw [List.getElem?_replicate] at h2
    split at h2 <;> cases h2
  have ha:vs[i]? = some v:=by
   unfold start at h2
   rw [List.getElem?_append_left (by simpa using hi),List.getElem?_map] at h2
   cases e:vs[i]? with
   | none=>rw [e] at h2;cases h2
   | some a=>rw [e] at h2;cases h2;rfl
  obtain ⟨u,hu,rv⟩:=r.get ha
  have hp:ps[i]? = some y:=by
   rw [← S.pre,List.getElem?_take_of_lt (by omega)];exact h1
  have ndP:ps.Nodup:=by rw [← S.pre];exact S.nd.sublist (List.take_sublist _ _)
  refine ⟨u,rv,?_⟩
  rcases S.par y (List.mem_of_getElem? hp) with k | k
  ·exact .inl ⟨k,zl8 ndP hp hu k⟩
  ·obtain ⟨c,e⟩:=znR (n:=s.heap.objs.size + 1) k
   refine .inr ⟨.inl k,c,e,?_⟩
   have q:=x.cell y c e
   rw [zlA ndP hp hu (by show scope.names.lookup y ≠ _;rw [k];decide)] at q
   exact q
 ·exact e0.hok.fresh (Nat.le_of_lt (x.above y c (PySem.mem_of_lookup h)))
 ·unfold start
  show _=N.length
  rw [List.length_append,List.length_map,List.length_replicate]
  omega
theorem ztS {CX:CXT} {P:Program} {w:World} {K:PySem.W.Frag} {mg:Str→Option Value} {base:Heap} {k:Nat} {f:Addr} {name qual:Str} {params:Arguments} {body:List Stmt} {scope:Scope} {dV kV doc pm cdv ct oc:Value} {an od:Option Addr}
  {osl:Array (Option Value)} {N ps:List Str} {sp:Sp} (lk:K.lookup f=some ⟨oc,od, .func (PySem.W.fnOf name qual params body scope dV kV doc pm an cdv ct),osl⟩) (hcd:PySem.W.codeIn K cdv qual=true) (S:zaz N ps scope)
  (len:∀ vs H Q E,sp vs H Q E→vs.length=ps.length)
  (hbody:∀ (A:Around) (outer:List Env) (s:Shared) (H:Hp) (vs:List V) (Q:VK) (E:XK),Room k (A.deeper (envOfC qual scope s.heap.objs.size f cdv))→sp vs H Q E →
   ∃ t,PSs (cxOf CX P w K mg base N qual scope f cdv A outer s H E) body t∧t { nx:=fun _ H'=>Q .non H',rt:=Q } (start N vs) H) :
  FnOk P w K mg base CX (k + 1) f (PySem.W.fnOf name qual params body scope dV kV doc pm an cdv ct) ps sp:=by
 refine ⟨len,fun A outer s H args us vs Q E hr e0 hb r hsp=>?_⟩
 have hl:=len _ _ _ _ hsp
 have KX:K.In s.heap:=e0.mod.kin.keeps fun b o e=>(e0.bs b o e).1
 have lim:s.heap.NoLimit:=e0.mod.nolimit.keeps fun b o e=>(e0.bs b o e).1
 have hkind:∀ y ∈ ps.zip us,scope.names.lookup y.1=some .local∨(scope.names.lookup y.1=some .cell∧((cellsFrom (s.heap.objs.size + 1) scope.names []).lookup y.1).isSome=true):=fun ⟨n,v⟩ hy=>by
  rcases S.par n (List.of_mem_zip hy).1 with q | q
  ·exact .inl q
  ·exact .inr ⟨q,PySem.W.cellsFrom_some _ _ _ (.inl q)⟩
 refine codeAny_call_function hr.depth (KX _ _ lk) rfl S.co S.gen rfl (PySem.W.codeRec_of KX hcd) (hb _ _ _ _ ?_)
 refine wpAny_newFunctionEnv_cells S.kind hkind fun env he s1 x=>?_
 subst he
 refine ⟨lim.keeps x.toInCall.keep,codeAny_func ?_⟩
 obtain ⟨t,ht,hq⟩:=hbody A outer s H vs Q E (hr.deeper _) hsp
 have I:Inv (cxOf CX P w K mg base N qual scope f cdv A outer s H E) [] (start N vs) H s1:=zgT S hr.hd e0 hl r x
 refine wpAny_mono (ht [] s1 (start N vs) H _ I hq) (fun fl s' hs=>?_) fun e s' hs=>hs
 have fin:∀ {σ':St} {H':Hp} {v:V} {u:Value},Inv (cxOf CX P w K mg base N qual scope f cdv A outer s H E) [] σ' H' s'→RelV v u→Q v H'→CE outer P w H s Q u s' :=
  fun {σ' H' v u} J rv q=>⟨v,H',J.os,J.bare,J.base,J.hok,rv,q⟩
 cases fl with
 | ret u =>
  obtain ⟨v,σ',H',J,rv,q⟩:=hs
  exact fin J rv q
 | next =>
  obtain ⟨σ',H',J,q⟩:=hs
  exact fin (v:=V.non) (u:=Value.none) J rfl q
 | brk =>
  obtain ⟨_,_,_,q⟩:=hs
  exact False.elim q
 | cont =>
  obtain ⟨_,_,_,q⟩:=hs
  exact False.elim q
end L2
namespace L2
open PySem PySem.Spec PyProof.Rows
section
variable {X:Cx} {x:Str} {p pos:Pos} {e:Expr} {es:List Expr} {t:TA} {id T:String} {r:List V→Hp→VK→Prop}
def tCB (r:List V→Hp→VK→Prop) (t:TA):TE:=fun σ H Q=>t σ H fun vs H1=>r vs H1 Q
theorem zrQ (hc:zeR X (.builtin id) r) (hg:Gl X x) (hm:X.mg x=none) (hv:bootBuiltins x=some (.builtin id)) (ha:PA X (e :: es) t) (hn:x ≠ "__name__":=by decide) (hdb:(x == ("__debug__" : Str))=false:=by decide)
  (he:starEach (e :: es) X.env=(false,eval e X.env) :: starEach es X.env:=by rfl) (hpl:(backTo pos (starEach es X.env)).any (·.1)=false:=by rfl):PE X (.Call (.Name x p) (e :: es) [] pos) (tCB r t):=by
 intro pins s σ H Q I h
 refine wpAny_Call_Name_kw (zfM I hg hm hv ?_ hn hdb)
 exact PyProof.Rows.callWith_builtin1 (thn (ha pos pins s σ H _ I h) fun us s1 ⟨vs,H1,I1,r1,q1⟩=>hc pins s1 σ H1 vs us Q I1 r1 q1) he hpl
theorem zp3 (hc:zeR X (.type T) r) (hg:Gl X x) (hm:X.mg x=none) (hv:bootBuiltins x=some (.type T)) (ha:PA X (e :: es) t) (hn:x ≠ "__name__":=by decide) (hdb:(x == ("__debug__" : Str))=false:=by decide)
  (he:starEach (e :: es) X.env=(false,eval e X.env) :: starEach es X.env:=by rfl) (hpl:(backTo pos (starEach es X.env)).any (·.1)=false:=by rfl):PE X (.Call (.Name x p) (e :: es) [] pos) (tCB r t):=by
 intro pins s σ H Q I h
 refine wpAny_Call_Name_kw (zfM I hg hm hv ?_ hn hdb)
 exact PyProof.Rows.callWith_type1 (thn (ha pos pins s σ H _ I h) fun us s1 ⟨vs,H1,I1,r1,q1⟩=>hc pins s1 σ H1 vs us Q I1 r1 q1) he hpl
end
end L2
namespace HT
open PySem PyProof.Rows
section
open PySem.SeqAt
open PySem.AutoSeq1 (wpAny_loadPart')
open PySem.MeetsSeq PySem.MeetsSeq2 PySem.MeetsSeq3
end
section
variable {prog:Program} {w:World} {A:Around} {E:Value→Shared→Prop} {s:Shared}
theorem zte {t b:Addr} {vs ws:List Value} {Q:Value→Shared→Prop} (ht:IsTup s.heap t vs.toArray) (hb:IsTup s.heap b ws.toArray) (hv:vs ≠ [])
  (h1:ws=[]→Q (.ref t) s) (h2:ws ≠ []→Q (.ref s.heap.objs.size) { s with heap:=s.heap.push { cls := .type "tuple",data := .seq (vs ++ ws).toArray } })
  (hsz:vs.length + ws.length ≤ sizeLine):wpAny (model prog w) A (binaryOp .Add (.ref t) (.ref b)) Q E s:=by
 obtain ⟨⟨cls,dd,data,sl⟩,ho,hc,n,hd⟩:=id ht
 obtain ⟨⟨cls2,dd2,data2,sl2⟩,ho2,hc2,n2,hd2⟩:=id hb
 simp only at hc hd hc2 hd2
 subst hc hd hc2 hd2
 have e:vs.toArray ++ ws.toArray=(vs ++ ws).toArray:=by simp
 by_cases hw:ws=[]
 ·exact concat_meets ⟨_,ho,rfl⟩ ⟨_,ho2,rfl⟩ noFill_tuple_add seq_tuple_add PySem.F.slot_tuple_add PySem.F.entry_tuple_add (PySem.F.args_tuple_add_2 _ _)
   (tuple_addW1 t b vs.toArray ws.toArray n n2 dd dd2 sl sl2 (by simpa using hv) (by simp [hw])) ⟨ho,ho2,h1 hw⟩
 ·refine concat_meets ⟨_,ho,rfl⟩ ⟨_,ho2,rfl⟩ noFill_tuple_add seq_tuple_add PySem.F.slot_tuple_add PySem.F.entry_tuple_add (PySem.F.args_tuple_add_2 _ _)
   (tuple_addW2 t b vs.toArray ws.toArray n n2 dd dd2 sl sl2 (by simpa using hv) (by simpa using hw) (by rw [List.size_toArray,List.size_toArray];exact hsz)) ⟨ho,ho2,?_⟩
  rw [e]
  exact h2 hw
def sIx (n d:Nat):Option Int→Nat
 | none=>d
 | some v=>if v < 0 then (v + (n:Int)).toNat else min v.toNat n
theorem zgV (n d:Nat):sIx n d none=d:=rfl
theorem zkb (n d k:Nat):sIx n d (some (k:Int))=min k n:=by
 show (if (k:Int) < 0 then ((k:Int) + (n:Int)).toNat else min (k:Int).toNat n)=min k n
 rw [if_neg (by omega),Int.toNat_natCast]
theorem zuo (n d:Nat) (hd:d ≤ n) (o:Option Int):sIx n d o ≤ n:=by
 cases o with
 | none=>exact hd
 | some v =>
  show (if v < 0 then (v + (n:Int)).toNat else min v.toNat n) ≤ n
  by_cases hv:v < 0
  ·rw [if_pos hv];omega
  ·rw [if_neg hv];exact Nat.min_le_right _ _
theorem zoE (v:Int) (n d:Nat):(if v < 0 then max (v + (n:Int)) 0 else min v (n:Int))=((sIx n d (some v):Nat):Int):=by
 show (if v < 0 then max (v + (n:Int)) 0 else min v (n:Int))=(((if v < 0 then (v + (n:Int)).toNat else min v.toNat n):Nat):Int)
 by_cases hv:v < 0
 ·simp only [if_pos hv];omega
 ·simp only [if_neg hv];omega
theorem zox (lo hi:Option Int) (n:Nat):Builtin.Slice.sliceAdjust lo hi 1 (n:Int)=(((sIx n 0 lo:Nat):Int),((sIx n n hi:Nat):Int)):=by
 have h1:¬ ((1:Int) < 0):=by omega
 unfold Builtin.Slice.sliceAdjust
 simp only [h1,if_false]
 refine Prod.ext ?_ ?_
 ·cases lo with
  | none=>rfl
  | some v=>exact zoE v n 0
 ·cases hi with
  | none=>rfl
  | some v=>exact zoE v n n
theorem zoB (i j:Nat):Builtin.Slice.slicePlaces (i:Int) (j:Int) 1=j - i:=by
 unfold Builtin.Slice.slicePlaces
 have h1:(1:Int) > 0:=by omega
 simp only [h1,if_true,Int.ediv_one]
 split <;> omega
theorem zjz {v:Value} {o:Option Int} {Q:Option Int→Shared→Prop} (p:IsPart v o) (h:Q o s):wpAny (model prog w) A (Builtin.Slice.slicePartIndex v) Q E s:=by
 cases p with
 | none=>exact slicePart_none h
 | int i t=>exact slicePart_int h
theorem zh4 {sl:Addr} {vl vu:Value} {lo hi:Option Int} {n:Nat} {Q:Int × Int × Nat→Shared→Prop} (hs:s.heap.IsSliceOf sl vl vu .none) (pl:IsPart vl lo) (pu:IsPart vu hi)
  (h:Q (((sIx n 0 lo:Nat):Int),1,sIx n n hi - sIx n 0 lo) s):wpAny (model prog w) A (Builtin.Slice.sliceApplied (.ref sl) (pure (n:Int))) Q E s:=by
 obtain ⟨os,hos,hcs,hds⟩:=id hs
 unfold Builtin.Slice.sliceApplied Builtin.Slice.sliceFields
 refine wpAny_bind (wpAny_bind (wpAny_field hos hds (x:=vl) rfl (wpAny_bind (wpAny_field hos hds (x:=vu) rfl (wpAny_bind (wpAny_field hos hds (x := .none) rfl (wpAny_pure ?_)))))))
 refine wpAny_bind (slicePart_none ?_)
 show wpAny _ _ (if ((1:Int) == 0)=true then _ else _) _ _ s
 rw [if_neg (by decide)]
 refine wpAny_bind (zjz pl (wpAny_bind (zjz pu (wpAny_bind (wpAny_pure ?_)))))
 show wpAny _ _ (match Builtin.Slice.sliceAdjust lo hi 1 (n:Int) with | (lo,hi)=>pure (lo,(1:Int),Builtin.Slice.slicePlaces lo hi 1)) _ _ s
 rw [zox lo hi n]
 show wpAny _ _ (pure (((sIx n 0 lo:Nat):Int),(1:Int),Builtin.Slice.slicePlaces ((sIx n 0 lo:Nat):Int) ((sIx n n hi:Nat):Int) 1)) _ _ s
 rw [zoB]
 exact wpAny_pure h
theorem zrb (xs:Array Value) (i k:Nat):((List.range k).filterMap fun (m:Nat)=>xs[((i:Int) + (m:Int) * 1).toNat]?).toArray=((xs.toList.drop i).take k).toArray:=by
 have e:(fun (m:Nat)=>xs[((i:Int) + (m:Int) * 1).toNat]?)=fun m=>xs[i + m]?:=by
  funext m
  have:((i:Int) + (m:Int) * 1).toNat=i + m:=by omega
  rw [this]
 rw [e]
 have:=pick_run xs i k
 rw [List.filterMap_map] at this
 have e2:((fun x=>xs[x]?) ∘ fun x=>i + x)=fun m=>xs[i + m]?:=rfl
 rw [e2] at this
 rw [this]
theorem zhh {t sl:Addr} {items:Array Value} {vl vu:Value} {lo hi:Option Int} {Q:Value→Shared→Prop} (ht:IsTup s.heap t items) (hs:s.heap.IsSliceOf sl vl vu .none) (pl:IsPart vl lo) (pu:IsPart vu hi)
  (hw:¬ (sIx items.size 0 lo=0∧sIx items.size items.size hi=items.size))
  (h:Q (.ref s.heap.objs.size) { s with heap:=s.heap.push { cls := .type "tuple",data := .seq ((items.toList.drop (sIx items.size 0 lo)).take (sIx items.size items.size hi - sIx items.size 0 lo)).toArray } })
  (hsz:items.size ≤ sizeLine):wpAny (model prog w) A (getItem (.ref t) (.ref sl)) Q E s:=by
 have htake:sizeOk (.seq ((items.toList.drop (sIx items.size 0 lo)).take (sIx items.size items.size hi - sIx items.size 0 lo)).toArray):=by
  show ((items.toList.drop (sIx items.size 0 lo)).take (sIx items.size items.size hi - sIx items.size 0 lo)).toArray.size ≤ sizeLine
  rw [List.size_toArray,List.length_take,List.length_drop,Array.length_toList]
  omega
 have hj:sIx items.size items.size hi ≤ items.size:=zuo _ _ (Nat.le_refl _) hi
 obtain ⟨os,hos,hcs,hds⟩:=id hs
 have hTs:s.TypeIs (.ref sl) "slice":=⟨os,hos,hcs⟩
 unfold getItem
 try with_reducible refine wpAny_holding ?_
 first | refine wpAny_bind (wpAny_pure ?_) | skip
 refine wpAny_bind (wpAny_sequenceKey ht.typeIs (by decide) ?_)
 refine wpAny_bind (wpAny_callSpecial?_slot (name:=Str.ofString "__getitem__") ht.typeIs PyProof.Rows.slot_tuple_getitem
  (wpAny_call_entry PyProof.Rows.slot_tuple_getitem ht.typeIs entry_tuple_getitem ?_ (args_tuple_getitem _ _)))
 show wpAny _ _ (Builtin.Tuple.tupleItemsOf (.ref t) >>= _) _ _ s
 refine wpAny_bind (tupleItemsOf_ ht ?_)
 refine wpAny_bind (wpAny_typeOf hTs ?_)
 rw [if_pos (by decide)]
 refine wpAny_bind (zh4 hs pl pu ?_)
 have hno:¬ ((((sIx items.size 0 lo:Nat):Int) == 0 && (1:Int) == 1 && (sIx items.size items.size hi - sIx items.size 0 lo) == items.size)=true):=by
  intro q
  rw [Bool.and_eq_true,Bool.and_eq_true] at q
  have q1:((sIx items.size 0 lo:Nat):Int)=0:=eq_of_beq q.1.1
  have q2:sIx items.size items.size hi - sIx items.size 0 lo=items.size:=eq_of_beq q.2
  exact hw ⟨by omega,by omega⟩
 show wpAny _ _ (if (((sIx items.size 0 lo:Nat):Int) == 0 && (1:Int) == 1 && (sIx items.size items.size hi - sIx items.size 0 lo) == items.size)=true then _ else _) _ _ s
 rw [if_neg hno,zrb]
 first
  | exact wpAny_bind (m:=Builtin.Tuple.tupleExact _) (wpAny_newObj_type (wpAny_pure ⟨_,rfl,wpAny_pure h⟩) htake)
  | exact wpAny_bind (m:=Builtin.Tuple.tupleExact _) (wpAny_newObj_type (wpAny_bind (wpAny_pure (wpAny_pure ⟨_,rfl,wpAny_pure h⟩))) htake)
  | exact wpAny_bind (wpAny_bind (m:=Builtin.Tuple.tupleExact _) (wpAny_newObj_type (wpAny_pure (wpAny_pure ⟨_,rfl,wpAny_pure h⟩)) htake))
  | exact wpAny_bind (wpAny_bind (m:=Builtin.Tuple.tupleExact _) (wpAny_newObj_type (wpAny_pure ⟨_,rfl,wpAny_pure h⟩) htake))
end
end HT
namespace L2
open PySem PySem.Spec PyProof.Rows
abbrev TO:=St→Hp→(Option Int→Hp→Prop)→Prop
def PO (X:Cx) (e:Option Expr) (t:TO):Prop :=
 ∀ (pins:List (Addr × Obj)) (s:Shared) (σ:St) (H:Hp) (Q:Option Int→Hp→Prop),Inv X pins σ H s→t σ H Q →
  wpAny (model X.prog X.w) X.A (evalPart e X.env) (fun u s'=>∃ o H',Inv X pins σ H' s'∧IsPart u o∧Q o H') X.xe s
def zsS:TO:=fun _ H Q=>Q none H
def zwv (t:TE):TO:=fun σ H Q=>t σ H fun x H1=>∃ i,x = .int i∧Q (some i) H1
theorem intsAre_of {ns:List Int}:∀ {us:List Value},Vals (ns.map V.int) us→IntsAre us ns:=by
 induction ns with
 | nil=>intro us r;rw [List.map_nil] at r;cases r;exact .nil
 | cons n ns ih =>
  intro us r
  rw [List.map_cons] at r
  cases r with
  | cons r1 r2 =>
   obtain ⟨t,e⟩:=r1
   subst e
   exact .cons n t (ih r2)
section
variable {X:Cx} {e:Expr} {te:TE} {lo hi:Option Expr} {tl th:TO} {pos p2:Pos}
theorem zsy:PO X none zsS:=by
 intro pins s σ H Q I h
 rw [evalPart_none]
 exact wpAny_pure ⟨none,H,I, .none,h⟩
theorem zsM (h:PE X e te):PO X (some e) (zwv te):=by
 intro pins s σ H Q I hw
 rw [evalPart_some]
 refine thn (h pins s σ H _ I hw) fun u s1 ⟨x,H1,I1,r1,q1⟩=>?_
 obtain ⟨i,rfl,q⟩:=q1
 obtain ⟨t,rfl⟩:=r1
 exact ⟨some i,H1,I1, .int i t,q⟩
def SlR (X:Cx) (r:V→Option Int→Option Int→Hp→VK→Prop):Prop :=
 ∀ (pins:List (Addr × Obj)) (s:Shared) (σ:St) (H:Hp) (x:V) (v vl vu:Value) (lo hi:Option Int) (sl:Addr) (Q:VK),Inv X pins σ H s→RelV x v→s.heap.IsSliceOf sl vl vu .none→IsPart vl lo→IsPart vu hi→r x lo hi H Q →
  ∃ T id,typeLookup (.type T) "__getitem__" = pure (some (.builtin id))∧s.TypeIs v T∧wpAny (model X.prog X.w) X.A (getItem v (.ref sl)) (EP X pins σ Q) X.xe s
theorem SlR.or {r r':V→Option Int→Option Int→Hp→VK→Prop} (h:SlR X r) (h':SlR X r'):SlR X (fun x lo hi H Q=>r x lo hi H Q∨r' x lo hi H Q):=by
 intro pins s σ H x v vl vu lo hi sl Q I rx hs pl pu q
 rcases q with q | q
 ·exact h pins s σ H x v vl vu lo hi sl Q I rx hs pl pu q
 ·exact h' pins s σ H x v vl vu lo hi sl Q I rx hs pl pu q
def tSl (r:V→Option Int→Option Int→Hp→VK→Prop) (te:TE) (tl th:TO):TE:=fun σ H Q=>te σ H fun x H1=>tl σ H1 fun l H2=>th σ H2 fun u H3=>r x l u H3 Q
theorem zq7 {r:V→Option Int→Option Int→Hp→VK→Prop} (hr:SlR X r) (he:PE X e te) (hl:PO X lo tl) (hu:PO X hi th):PE X (.Subscript e (.Slice lo hi none p2) pos) (tSl r te tl th):=by
 intro pins s σ H Q I h
 refine Subscript_ (thn (he pins s σ H _ I h) fun v s1 ⟨x,H1,I1,r1,q1⟩=>?_)
 refine wpAny_Slice (thn (hl pins s1 σ H1 _ I1 q1) fun vl s2 ⟨l,H2,I2,pl,q2⟩=>thn (hu pins s2 σ H2 _ I2 q2) fun vu s3 ⟨u,H3,I3,pu,q3⟩=>?_)
 rw [evalPart_none]
 refine wpAny_pure ?_
 have I4:Inv X pins σ H3 { s3 with heap:=s3.heap.push { cls := .type "slice",data := .fields #[vl,vu, .none] } }:=I3.kept (t':=s3.toks) fun b ob q=>Heap.get?_push_of_some _ q
 obtain ⟨T,id,hT,ht,hg⟩:=hr pins { s3 with heap:=s3.heap.push { cls := .type "slice",data := .fields #[vl,vu, .none] } } σ H3 x v vl vu l u s3.heap.objs.size Q I4 r1 (Heap.IsSliceOf.new ..) pl pu q3
 show wpAny (model X.prog X.w) X.A (subscriptTail e (.Slice lo hi none p2) v (.ref s3.heap.objs.size)) (EP X pins σ Q) X.xe { s3 with heap:=s3.heap.push { cls := .type "slice",data := .fields #[vl,vu, .none] } }
 exact tail_any (ops:=[.ref s3.heap.objs.size,v]) ht hT hg (by with_unfolding_all rfl)
def cutV (xs:List V) (lo hi:Option Int):List V:=(xs.drop (HT.sIx xs.length 0 lo)).take (HT.sIx xs.length xs.length hi - HT.sIx xs.length 0 lo)
theorem ziN (xs:List V) (lo hi:Option Int):(cutV xs lo hi).length ≤ xs.length:=by
 unfold cutV
 rw [List.length_take,List.length_drop]
 omega
def rSlT (K:PySem.W.Frag):V→Option Int→Option Int→Hp→VK→Prop:=fun x lo hi H Q=>∃ a xs,x = .ref a∧SqT K H a xs ∧
 ¬ (HT.sIx xs.length 0 lo=0∧HT.sIx xs.length xs.length hi=xs.length)∧∀ p,H p=none→Q (.ref p) (upd H p (.tup (cutV xs lo hi)))
theorem zuS:SlR X (rSlT X.K):=by
 intro pins s σ H x v vl vu lo hi sl Q I rx hs pl pu h
 obtain ⟨a,xs,rfl,hx,hw,q⟩:=h
 cases rx
 obtain ⟨its,r,ht,hz⟩:=I.tuple hx
 have hlen:its.toArray.size=xs.length:=by rw [List.size_toArray];exact r.length.symm
 refine ⟨"tuple",_,PyProof.Rows.slot_tuple_getitem.lookup,ht.typeIs,?_⟩
 refine HT.zhh ht hs pl pu (by rw [hlen];exact hw) ?_ (by rw [hlen];exact hz)
 rw [hlen]
 refine ⟨.ref s.heap.objs.size,_,I.laid (t':=s.toks) (o := .tup (cutV xs lo hi)) (fun b ob q=>Heap.get?_push_of_some _ q) (Nat.le_refl _) ?_,rfl,q _ (I.hok.fresh (Nat.le_refl _))⟩
 exact ⟨Nat.le_trans (ziN xs lo hi) hz,_,(r.drop (HT.sIx xs.length 0 lo)).take (HT.sIx xs.length xs.length hi - HT.sIx xs.length 0 lo),IsTup.new _ _⟩
def zv2 (K:PySem.W.Frag):R2:=fun x y H Q=>∃ a b xs ys,x = .ref a∧y = .ref b∧SqT K H a xs∧SqT K H b ys∧xs ≠ []∧xs.length + ys.length ≤ sizeLine ∧
 (ys=[]→Q (.ref a) H)∧(ys ≠ []→∀ p,H p=none→Q (.ref p) (upd H p (.tup (xs ++ ys))))
theorem Vals.zmF {xs:List V} {us:List Value} (r:Vals xs us):us=[]↔xs=[]:=by
 cases r with
 | nil=>simp
 | cons _ _=>simp
theorem zty:OpR X (binaryOp .Add) (zv2 X.K):=by
 intro pins s σ H x y v u Q I rx ry h
 obtain ⟨a,b,xs,ys,rfl,rfl,ha,hb,hx,hz,q1,q2⟩:=h
 cases rx
 cases ry
 obtain ⟨its,r1,p1,_⟩:=I.tuple ha
 obtain ⟨its2,r2,p2,_⟩:=I.tuple hb
 refine HT.zte p1 p2 (fun z=>hx (r1.zmF.mp z)) (fun z=>⟨.ref a,H,I,rfl,q1 (r2.zmF.mp z)⟩) (fun z=>?_) (by rw [← r1.length,← r2.length];exact hz)
 refine ⟨.ref s.heap.objs.size,_,I.laid (t':=s.toks) (o := .tup (xs ++ ys)) (fun b ob q=>Heap.get?_push_of_some _ q) (Nat.le_refl _) ?_,rfl,q2 (fun w=>z (r2.zmF.mpr w)) _ (I.hok.fresh (Nat.le_refl _))⟩
 exact ⟨by rw [List.length_append];exact hz,_,r1.append r2,IsTup.new _ _⟩
end
end L2
namespace L2
open PySem PySem.Spec PyProof.Rows
def ixN (n:Nat) (i:Int):Option Nat:=if 0 ≤ i then (if i < n then some i.toNat else none) else if -(n:Int) ≤ i then some (i + n).toNat else none
def atI {α:Type} (xs:List α) (i:Int):Option α:=(ixN xs.length i).bind fun j=>xs[j]?
theorem ztk {n:Nat} {i:Int} {j:Nat} (h:ixN n i=some j):seqIndex? i n=some j∧j < n∧-(n:Int) ≤ i∧i < n:=by
 unfold ixN at h
 by_cases h0:0 ≤ i
 ·rw [if_pos h0] at h
  by_cases h1:i < n
  ·rw [if_pos h1] at h
   have e:i.toNat=j:=Option.some.inj h
   exact ⟨by rw [seqIndex_of h0 h1,e],by omega,by omega,h1⟩
  ·rw [if_neg h1] at h;cases h
 ·rw [if_neg h0] at h
  by_cases h1 : -(n:Int) ≤ i
  ·rw [if_pos h1] at h
   have e:(i + n).toNat=j:=Option.some.inj h
   exact ⟨by rw [seqIndex_neg (by omega) h1,e],by omega,h1,by omega⟩
  ·rw [if_neg h1] at h;cases h
theorem zml {α:Type} {xs:List α} {i:Int} {v:α} (h:atI xs i=some v):∃ j,seqIndex? i xs.length=some j∧xs[j]? = some v∧j < xs.length∧-(xs.length:Int) ≤ i∧i < xs.length:=by
 unfold atI at h
 cases e:ixN xs.length i with
 | none=>rw [e] at h;cases h
 | some j =>
  rw [e] at h
  obtain ⟨h1,h2,h3,h4⟩:=ztk e
  exact ⟨j,h1,h,h2,h3,h4⟩
def zoK (b:Expr):Prop:=∀ o i,subscripted b false o i=operate [o,i] (getItem o i)
def IxR (X:Cx) (r:R2):Prop :=
 ∀ (value slice:Expr) (pins:List (Addr × Obj)) (s:Shared) (σ:St) (H:Hp) (x y:V) (v u:Value) (Q:VK),Inv X pins σ H s→RelV x v→RelV y u→r x y H Q →
  subscripted slice false v u=operate [v,u] (getItem v u)→wpAny (model X.prog X.w) X.A (subscriptTail value slice v u) (EP X pins σ Q) X.xe s
def MtR (X:Cx) (id:String) (r:V→List V→Hp→VK→Prop):Prop :=
 ∀ (pins:List (Addr × Obj)) (s:Shared) (σ:St) (H:Hp) (x:V) (xs:List V) (v:Value) (us:List Value) (Q:VK),Inv X pins σ H s→RelV x v→Vals xs us→r x xs H Q →
  wpAny (model X.prog X.w) X.A (call (.builtin id) (v :: us)) (EP X pins σ Q) X.xe s
section
variable {X:Cx} {a b:Expr} {ta tb:TE} {pos:Pos}
theorem IxR.or {r r':R2} (h:IxR X r) (h':IxR X r'):IxR X (fun x y H Q=>r x y H Q∨r' x y H Q):=by
 intro value slice pins s σ H x y v u Q I rx ry q hs
 rcases q with q | q
 ·exact h value slice pins s σ H x y v u Q I rx ry q hs
 ·exact h' value slice pins s σ H x y v u Q I rx ry q hs
theorem MtR.or {id:String} {r r':V→List V→Hp→VK→Prop} (h:MtR X id r) (h':MtR X id r'):MtR X id (fun x xs H Q=>r x xs H Q∨r' x xs H Q):=by
 intro pins s σ H x xs v us Q I rx rs q
 rcases q with q | q
 ·exact h pins s σ H x xs v us Q I rx rs q
 ·exact h' pins s σ H x xs v us Q I rx rs q
theorem zv6 {r:R2} (hr:IxR X r) (ha:PE X a ta) (hb:PE X b tb) (hs:zoK b):PE X (.Subscript a b pos) (tOp r ta tb):=by
 intro pins s σ H Q I h
 exact Subscript_ (binT ha hb I h fun v u s2 x y H2 I2 rx ry q=>hr a b pins s2 σ H2 x y v u Q I2 rx ry q (hs _ _))
def rIxL (K:PySem.W.Frag):R2:=fun x y H Q=>∃ p xs i v,x = .ref p∧y = .int i∧SqL K H p xs∧atI xs i=some v∧Q v H
def rIxT (K:PySem.W.Frag):R2:=fun x y H Q=>∃ p xs i v,x = .ref p∧y = .int i∧SqT K H p xs∧atI xs i=some v∧Q v H
def rIxS:R2:=fun x y H Q=>∃ z i c,x = .str z∧y = .int i∧z.length ≤ sizeLine∧atI z.cps.toList i=some c∧Q (.str ⟨#[c]⟩) H
theorem zsz:IxR X (rIxL X.K):=by
 intro value slice pins s σ H x y v u Q I rx ry h hs
 obtain ⟨p,xs,i,z,rfl,rfl,hq,he,q⟩:=h
 cases rx
 obtain ⟨t,rfl⟩:=ry
 obtain ⟨its,r,pl,hz⟩:=I.list hq
 obtain ⟨j,h1,h2,h3,h4,h5⟩:=zml he
 obtain ⟨w,ew,rw'⟩:=r.get h2
 have hl:=r.length
 have hn:=znd
 have fin:EP X pins σ Q w s:=⟨z,H,I,rw',q⟩
 by_cases h0:0 ≤ i
 ·have hj:i.toNat=j:=by
   rw [seqIndex_of h0 h5] at h1
   exact Option.some.inj h1
  exact item_listR pl.isList h0 (by omega) (by rw [hj];simpa using ew) fin hs
 ·have hj:(i + (its.toArray.size:Int)).toNat=j:=by
   rw [seqIndex_neg (by omega) h4] at h1
   rw [List.size_toArray,← hl]
   exact Option.some.inj h1
  exact subscriptTail_builtinR (x:=w) pl.isList.typeIs slot_list_getitem.lookup
   (wpAny_getItem_list_neg (Q:=fun r s'=>r=w∧EP X pins σ Q r s') pl.isList (by omega) (by rw [List.size_toArray] <;> omega) (by omega) (by rw [hj];simpa using ew) ⟨rfl,fin⟩) hs
theorem zu0:IxR X (rIxT X.K):=by
 intro value slice pins s σ H x y v u Q I rx ry h hs
 obtain ⟨p,xs,i,z,rfl,rfl,hq,he,q⟩:=h
 cases rx
 obtain ⟨t,rfl⟩:=ry
 obtain ⟨its,r,pl,hz⟩:=I.tuple hq
 obtain ⟨j,h1,h2,h3,h4,h5⟩:=zml he
 obtain ⟨w,ew,rw'⟩:=r.get h2
 have hl:=r.length
 have hn:=znd
 have fin:EP X pins σ Q w s:=⟨z,H,I,rw',q⟩
 exact subscriptTail_builtinR (x:=w) pl.typeIs slot_tuple_getitem.lookup
  (getItem_tuple (j:=j) (Q:=fun r s'=>r=w∧EP X pins σ Q r s') pl (by omega) (by omega) (by rw [List.size_toArray,← hl];exact h1) (by simpa using ew) ⟨rfl,fin⟩) hs
theorem zvk:IxR X rIxS:=by
 intro value slice pins s σ H x y v u Q I rx ry h hs
 obtain ⟨z,i,c,rfl,rfl,hz,he,q⟩:=h
 obtain ⟨t,rfl⟩:=rx
 obtain ⟨t',rfl⟩:=ry
 obtain ⟨j,h1,h2,h3,h4,h5⟩:=zml he
 have hl:z.cps.toList.length=z.length:=by simp [Str.length]
 rw [hl] at h1 h4 h5
 have hn:=znd
 exact tail_any (typeIs_str s z t) slot_str_getitem.lookup (getItem_str (c:=c) (by
  have e1:decide (i < -(2 ^ 63:Int))=false:=decide_eq_false (by omega)
  have e2:decide (i ≥ 2 ^ 63)=false:=decide_eq_false (by omega)
  rw [e1,e2,Bool.or_false]) (by rw [h1];simpa using h2) ⟨.str ⟨#[c]⟩,H,I.tok _,⟨_,rfl⟩,q⟩) hs
def rIx (K:PySem.W.Frag):R2:=fun x y H Q=>rIxL K x y H Q∨rIxT K x y H Q∨rIxS x y H Q
theorem zu1:IxR X (rIx X.K):=zsz.or (zu0.or zvk)
theorem Inv.lst {pins:List (Addr × Obj)} {σ:St} {H:Hp} {s:Shared} {p:Addr} {xs:List V} (I:Inv X pins σ H s) (h:H p=some (.lst xs)) :
  ∃ (its:List Value) (n:Nat),Vals xs its∧s.heap.get? p=some { cls := .type "list",data := .seq its.toArray n }∧xs.length ≤ sizeLine:=by
 obtain ⟨z,its,n,r,e⟩:=I.hok p _ h
 exact ⟨its,n,r,e,z⟩
theorem zlc (lo hi:Option Int) (n:Nat):(sliceBounds lo hi none n).1=((HT.sIx n 0 lo:Nat):Int)∧(sliceBounds lo hi none n).2.1=((HT.sIx n n hi:Nat):Int)∧(sliceBounds lo hi none n).2.2=1:=by
 refine ⟨?_,?_,rfl⟩
 ·cases lo with
  | none=>simp [sliceBounds,HT.sIx]
  | some i =>
   simp only [sliceBounds,HT.sIx,Option.getD_none,show (1:Int) > 0 by decide,if_true]
   by_cases h:i < 0
   ·simp only [h,if_true] <;> omega
   ·simp only [h,if_false] <;> omega
 ·cases hi with
  | none=>simp [sliceBounds,HT.sIx]
  | some i =>
   simp only [sliceBounds,HT.sIx,Option.getD_none,show (1:Int) > 0 by decide,if_true]
   by_cases h:i < 0
   ·simp only [h,if_true] <;> omega
   ·simp only [h,if_false] <;> omega
theorem zkG (its:List Value) (lo hi:Option Int):slicePick its.toArray lo hi none=((its.drop (HT.sIx its.length 0 lo)).take (HT.sIx its.length its.length hi - HT.sIx its.length 0 lo)).toArray:=by
 obtain ⟨h1,h2,h3⟩:=zlc lo hi its.toArray.size
 unfold slicePick
 rw [h1,h2,h3]
 simp only [sliceRange_one,pick_run,List.size_toArray] <;> rfl
def rSlL (K:PySem.W.Frag):V→Option Int→Option Int→Hp→VK→Prop:=fun x lo hi H Q=>∃ a xs,x = .ref a∧SqL K H a xs∧∀ p,H p=none→Q (.ref p) (upd H p (.lst (cutV xs lo hi)))
theorem ztc:SlR X (rSlL X.K):=by
 intro pins s σ H x v vl vu lo hi sl Q I rx hs pl pu h
 obtain ⟨a,xs,rfl,hx,q⟩:=h
 cases rx
 obtain ⟨its,r,ht,hz⟩:=I.list hx
 have hlen:=r.length
 refine ⟨"list",_,slot_list_getitem.lookup,ht.isList.typeIs,?_⟩
 refine wpAny_getItem_list_slice ht.isList hs pl pu .none (by simp) ?_ (by rw [List.size_toArray] <;> omega)
 rw [zkG,← hlen]
 refine ⟨.ref s.heap.objs.size,_,I.laid (t':=s.toks) (o := .lst (cutV xs lo hi)) (fun b ob q=>Heap.get?_push_of_some _ q) (Nat.le_refl _) ?_,rfl,q _ (I.hok.fresh (Nat.le_refl _))⟩
 exact ⟨Nat.le_trans (ziN xs lo hi) hz,_,0,(r.drop (HT.sIx xs.length 0 lo)).take (HT.sIx xs.length xs.length hi - HT.sIx xs.length 0 lo),Heap.get?_push_size _ rfl⟩
theorem zlr:zeR X (.builtin "len") (fun xs H Q=>∃ p ys,xs=[.ref p]∧(SqL X.K H p ys∨SqT X.K H p ys)∧Q (.int ys.length) H):=by
 intro pins s σ H xs us Q I r h
 obtain ⟨p,ys,rfl,hq,q⟩:=h
 obtain ⟨u,rfl,rx⟩:=vals1 r
 cases rx
 have hn:=znd
 rcases hq with hq | hq
 ·obtain ⟨its,r',pl,hz⟩:=I.list hq
  have hlen:=r'.length
  exact Calls.call_len_list pl.isList (by simp only [List.size_toArray] <;> omega) ⟨.int ys.length,H,I.tok _,⟨s.toks + 1,by rw [List.size_toArray,hlen]⟩,q⟩
 ·obtain ⟨its,r',pl,hz⟩:=I.tuple hq
  have hlen:=r'.length
  exact len_tuple pl (by simp only [List.size_toArray] <;> omega) ⟨.int ys.length,H,I.tok _,⟨s.toks + 1,by rw [List.size_toArray,hlen]⟩,q⟩
theorem zeR.or {f:Value} {r r':List V→Hp→VK→Prop} (h:zeR X f r) (h':zeR X f r'):zeR X f (fun xs H Q=>r xs H Q∨r' xs H Q):=by
 intro pins s σ H xs us Q I rs q
 rcases q with q | q
 ·exact h pins s σ H xs us Q I rs q
 ·exact h' pins s σ H xs us Q I rs q
theorem zlb:zeR X (.type "list") (fun xs H Q=>∃ p ys,xs=[.ref p]∧(SqL X.K H p ys∨SqT X.K H p ys)∧∀ l,H l=none→Q (.ref l) (upd H l (.lst ys))):=by
 intro pins s σ H xs us Q I r h
 obtain ⟨p,ys,rfl,hq,q⟩:=h
 obtain ⟨u,rfl,rx⟩:=vals1 r
 cases rx
 have fin:∀ (its:List Value),Vals ys its→ys.length ≤ sizeLine→∀ (h':Heap) (c':Nat),(∀ b o',s.heap.get? b=some o'→h'.get? b=some o') →
   h'.get? s.heap.objs.size=some { cls := .type "list",dict:=none,data := .seq its.toArray c',slots:=#[] }→EP X pins σ Q (.ref s.heap.objs.size) { s with heap:=h' }:=fun its r' hz h' c' kp e =>
  ⟨.ref s.heap.objs.size,_,I.laid (t':=s.toks) kp (Nat.le_refl _) (show zc1 X.prog X.w _ h' _ (.lst ys) from ⟨hz,its,c',r',e⟩),rfl,q _ (I.hok.fresh (Nat.le_refl _))⟩
 rcases hq with hq | hq
 ·obtain ⟨its,r',pl,hz⟩:=I.list hq
  have hlen:=r'.length
  obtain ⟨o,ho,hc,n,hd⟩:=pl.isList
  exact call_list_seq p (.inl rfl) ho hc hd (fun h' c' kp e=>fin its r' hz h' c' kp e) (by simp only [List.size_toArray] <;> omega)
 ·obtain ⟨its,r',pl,hz⟩:=I.tuple hq
  have hlen:=r'.length
  obtain ⟨o,ho,hc,n,hd⟩:=pl
  exact call_list_seq p (.inr rfl) ho hc hd (fun h' c' kp e=>fin its r' hz h' c' kp e) (by simp only [List.size_toArray] <;> omega)
def tyV (K:PySem.W.Frag) (T:String) (x:V) (H:Hp):Prop:=match x with
 | .str _=>T = "str"
 | .int _=>T = "int"
 | .ref p=>(T = "list"∧∃ xs,SqL K H p xs)∨(T = "tuple"∧∃ o,K.lookup p=some o∧o.cls = .type "tuple"∧o.dict=none) ∨
   (T = "dict"∧((∃ kvs,H p=some (.dK kvs))∨∃ kvs,H p=some (.dT kvs)))∨(T = "set"∧∃ S n,H p=some (.set S n))
 | _=>False
theorem zvT {pins:List (Addr × Obj)} {σ:St} {H:Hp} {s:Shared} {T:String} {x:V} {v:Value} (I:Inv X pins σ H s) (r:RelV x v) (ty:tyV X.K T x H) :
  s.TypeIs v T∧∀ a,v = .ref a→∃ ob,s.heap.get? a=some ob∧ob.dict=none:=by
 cases x with
 | str z =>
  obtain ⟨t,rfl⟩:=r
  cases (show T = "str" from ty)
  exact ⟨typeIs_str s z t,fun _ e=>nomatch e⟩
 | int i =>
  obtain ⟨t,rfl⟩:=r
  cases (show T = "int" from ty)
  exact ⟨typeIs_int s i t,fun _ e=>nomatch e⟩
 | ref p =>
  cases r
  rcases ty with ⟨rfl,xs,hq⟩ | ⟨rfl,o,hk,hc,hd⟩ | ⟨rfl,hk⟩ | ⟨rfl,S,n,hk⟩
  ·obtain ⟨its,_,pl,_⟩:=I.list hq
   refine ⟨pl.isList.typeIs,fun a e=>?_⟩
   cases e
   obtain ⟨o,n,e,c,hd,_⟩:=pl
   exact ⟨o,e,hd⟩
  ·refine ⟨⟨o,I.kIn p o hk,hc⟩,fun a e=>?_⟩
   cases e
   exact ⟨o,I.kIn _ o hk,hd⟩
  ·have z:∃ o,s.heap.get? p=some o∧o.ExactDict:=by
    rcases hk with ⟨kvs,hk⟩ | ⟨kvs,hk⟩
    ·obtain ⟨_,_,_,_,o,_,_,e,ex,_⟩:=I.hok p _ hk
     exact ⟨o,e,ex⟩
    ·obtain ⟨_,_,_,_,o,_,_,e,ex,_⟩:=I.hok p _ hk
     exact ⟨o,e,ex⟩
   obtain ⟨o,e,ex⟩:=z
   refine ⟨⟨o,e,ex.1⟩,fun a e2=>?_⟩
   cases e2
   exact ⟨o,e,ex.2.1⟩
  ·obtain ⟨o,_,_,_,e,ex,_⟩:=I.hok p _ hk
   refine ⟨⟨o,e,ex.1⟩,fun a e2=>?_⟩
   cases e2
   exact ⟨o,e,ex.2.1⟩
 | _=>exact False.elim ty
def tBM (K:PySem.W.Frag) (T:String) (r:V→List V→Hp→VK→Prop) (to:TE) (t:TA):TE:=fun σ H Q=>to σ H fun x H1=>tyV K T x H1∧t σ H1 fun xs H2=>r x xs H2 Q
variable {o e:Expr} {es:List Expr} {to:TE} {t:TA} {name:Str} {apos cpos:Pos} {T id:String} {r:V→List V→Hp→VK→Prop}
theorem zwk (pa:PlainAttrs T) (slot:Slot T name id) (hty:typeOf (.builtin id)=pure (.type "method_descriptor")) (hm:MtR X id r) (ho:PE X o to) (ha:PA X (e :: es) t)
  (hbase:attributeBase o name X.env (eval o X.env)=eval o X.env:=by rfl)
  (hfew:((backTo cpos (starEach (e :: es) X.env)).all (fun x=>!x.1) && (backToKw cpos (keywordEach [] X.env)).all (fun x=>x.1.isSome)
   && decide ((e :: es).length + ([] : List Keyword).length + (if ([] : List Keyword).isEmpty then 0 else 1) < 30))=true:=by rfl)
  (hline:(apos.endLine == cpos.line)=true:=by rfl) (hs:starEach (e :: es) X.env=(false,eval e X.env) :: starEach es X.env:=by rfl) (hplain:(backTo cpos (starEach es X.env)).any (·.1)=false:=by rfl) :
  PE X (.Call (.Attribute o name apos) (e :: es) [] cpos) (tBM X.K T r to t):=by
 intro pins s σ H Q I h
 refine wpAny_Call_method_late hbase hfew hline rfl (thn (ho pins s σ H _ I h) fun v s1 ⟨x,H1,I1,r1,ty,q1⟩=>?_)
 obtain ⟨h1,h2⟩:=zvT I1 r1 ty
 refine ⟨T,id,pa,slot,hty,h1,h2,?_⟩
 have hA:=ha cpos pins s1 σ H1 _ I1 q1
 rw [hs] at hA ⊢
 refine Calls.callWith_builtin (by show (false || (backTo cpos (starEach es X.env)).any (·.1))=false;rw [hplain] <;> rfl) (Calls.evalArgs_plain ?_)
 exact thn hA fun us s2 ⟨vs,H2,I2,r2,q2⟩=>hm pins s2 σ H2 x vs v us Q I2 r1 r2 q2
end
end L2
namespace L2
open PySem PySem.Spec PyProof.Rows
def MtM (X:Cx) (id:String) (r:V→List V→Hp→VK→Prop):Prop :=
 ∀ (pins:List (Addr × Obj)) (s:Shared) (σ:St) (H:Hp) (x:V) (xs:List V) (v:Value) (us:List Value) (Q:VK),Inv X pins σ H s→RelV x v→Vals xs us→r x xs H Q →
  wpAny (model X.prog X.w) X.A (call (.builtin id) (v :: us)) (EP X pins σ Q) X.xe s
theorem Vals.one:∀ {x:V} {us:List Value},Vals [x] us→∃ u,us=[u]∧RelV x u
 | _,_, .cons r .nil=>⟨_,rfl,r⟩
theorem Vals.two:∀ {x y:V} {us:List Value},Vals [x,y] us→∃ u v,us=[u,v]∧RelV x u∧RelV y v
 | _,_,_, .cons r (.cons q .nil)=>⟨_,_,rfl,r,q⟩
theorem Vals.zero:∀ {us:List Value},Vals [] us→us=[]
 | _, .nil=>rfl
section
variable {X:Cx} {pins:List (Addr × Obj)} {σ:St} {H:Hp} {s:Shared} {l b:Addr} {xs ys zs:List V}
theorem Inv.lset {its its':List Value} {n:Nat} {f:Array Value→Array Value} {t':Nat} (I:Inv X pins σ H s) (hH:H l=some (.lst xs))
  (e:s.heap.get? l=some { cls := .type "list",data := .seq its.toArray n }) (hf:f its.toArray=its'.toArray) (hv:Vals ys its') (hz:ys.length ≤ sizeLine) :
  Inv X pins σ (upd H l (.lst ys)) { s with heap:=s.heap.update l (Obj.mapSeq f),toks:=t' }:=by
 have q:=PySem.IsL.update e f
 rw [hf] at q
 refine I.write (x:=l) (e:=l) (by rw [hH];exact trivial) (.inl rfl) (fun b' u hb hu=>(Heap.get?_update_other s.heap (Obj.mapSeq f) (Ne.symm hb)).trans hu) ⟨_,q⟩ ?_
 exact ⟨hz,its',_,hv,q⟩
theorem Inv.lnew {its:List Value} {t':Nat} (I:Inv X pins σ H s) (hv:Vals ys its) (hz:ys.length ≤ sizeLine) :
  Inv X pins σ (upd H s.heap.objs.size (.lst ys)) { s with heap:=s.heap.push { cls := .type "list",data := .seq its.toArray },toks:=t' } :=
 I.laid (fun _ _ q=>Heap.get?_push_of_some _ q) (Nat.le_refl _) ⟨hz,its,0,hv,Heap.get?_push_size _ rfl⟩
theorem Inv.fresh (I:Inv X pins σ H s):H s.heap.objs.size=none:=I.hok.fresh (Nat.le_refl _)
theorem Inv.lstM (I:Inv X pins σ H s) (hH:H l=some (.lst xs)):xs.length ≤ sizeLine∧∃ (its:List Value) (n:Nat),Vals xs its∧xs.length=its.length∧s.heap.get? l=some { cls := .type "list",data := .seq its.toArray n }:=by
 obtain ⟨z,its,n,r,e⟩:=I.hok l _ hH
 exact ⟨z,its,n,r,r.length,e⟩
end
section
variable {X:Cx}
def zps:V→List V→Hp→VK→Prop:=fun x vs H Q=>∃ l xs y,x = .ref l∧vs=[y]∧H l=some (.lst xs)∧xs.length < sizeLine∧Q .non (upd H l (.lst (xs ++ [y])))
theorem ziX:MtM X "list.append" zps:=by
 intro pins s σ H x vs v us Q I rx rv h
 obtain ⟨l,xs,y,rfl,rfl,hH,hz,q⟩:=h
 cases rx
 obtain ⟨u,rfl,ru⟩:=rv.one
 obtain ⟨z,its,n,r,hl,e⟩:=I.lstM hH
 refine call_meets F.slot_list_append ⟨_,e,rfl⟩ F.entry_list_append (F.args_list_append_2 _ _) (PySem.list_append l its.toArray n u (by rw [List.size_toArray];omega)) ⟨e,?_⟩
 refine ⟨.non,_,I.lset (its':=its ++ [u]) hH e (by simp) (r.append (.cons ru .nil)) ?_,rfl,q⟩
 rw [List.length_append,List.length_singleton]
 omega
def rCat:R2:=fun x y H Q=>∃ l b xs zs,x = .ref l∧y = .ref b∧H l=some (.lst xs)∧H b=some (.lst zs)∧xs.length + zs.length ≤ sizeLine∧∀ p,H p=none→Q (.ref p) (upd H p (.lst (xs ++ zs)))
theorem zvw:OpR X (binaryOp .Add) rCat:=by
 intro pins s σ H x y v u Q I rx ry h
 obtain ⟨l,b,xs,zs,rfl,rfl,hH,hB,hz,q⟩:=h
 cases rx
 cases ry
 obtain ⟨z,its,n,r,hl,e⟩:=I.lstM hH
 obtain ⟨z2,its2,n2,r2,hl2,e2⟩:=I.lstM hB
 refine PySem.P.add_list e e2 ?_ (by rw [List.size_toArray,List.size_toArray];omega)
 have ea:its.toArray ++ its2.toArray=(its ++ its2).toArray:=by simp
 rw [ea]
 exact ⟨.ref _,_,I.lnew (t':=s.toks) (r.append r2) (by rw [List.length_append];omega),rfl,q _ I.fresh⟩
end
section
variable {prog:Program} {w:World} {A:Around} {E:Value→Shared→Prop} {s:Shared}
end
section
variable {X:Cx}
end
end L2
namespace L2
open PySem PySem.Spec PyProof.Rows
section
variable {κ:Type} [DecidableEq κ]
def valV (kvs:List (κ × V)) (k:κ):Option V:=(kvs.find? fun kv=>decide (kv.1=k)).map (·.2)
def putK (kvs:List (κ × V)) (k:κ) (v:V):List (κ × V) :=
 if (kvs.any fun kv=>decide (kv.1=k))=true then kvs.map (fun kv=>if kv.1=k then (kv.1,v) else kv) else kvs ++ [(k,v)]
theorem zky {p:κ × V} {r:List (κ × V)} {k:κ} (e:p.1=k):valV (p :: r) k=some p.2:=by simp [valV,List.find?_cons,e]
theorem zjO {p:κ × V} {r:List (κ × V)} {k:κ} (e:¬ p.1=k):valV (p :: r) k=valV r k:=by simp [valV,List.find?_cons,e]
theorem zno (k:κ):∀ kvs:List (κ × V),(kvs.any fun kv=>decide (kv.1=k))=(valV kvs k).isSome
 | []=>rfl
 | p :: r=>by
  rw [List.any_cons]
  by_cases e:p.1=k
  ·simp only [zky e,decide_eq_true e,Bool.true_or,Option.isSome_some]
  ·rw [zjO e,decide_eq_false e,Bool.false_or];exact zno k r
theorem zgH (kvs:List (κ × V)) (k:κ) (v:V):(putK kvs k v).length ≤ kvs.length + 1:=by
 unfold putK
 split
 ·rw [List.length_map];omega
 ·rw [List.length_append,List.length_cons,List.length_nil];omega
theorem RelO.ziW {o:Option V} {u:Option Value} (r:RelO o u):o.isSome=u.isSome:=by
 cases o with
 | none=>cases u with
  | none=>rfl
  | some _=>exact (show False from r).elim
 | some _=>cases u with
  | none=>exact (show False from r).elim
  | some _=>rfl
theorem RelO.getD {o:Option V} {u:Option Value} {d:V} {d':Value} (r:RelO o u) (rd:RelV d d'):RelV (o.getD d) (u.getD d'):=by
 cases o with
 | none=>cases u with
  | none=>exact rd
  | some _=>exact (show False from r).elim
 | some _=>cases u with
  | none=>exact (show False from r).elim
  | some _=>exact r
theorem KV.val {kvs:List (κ × V)} {vs:List (κ × Value)} (r:KV kvs vs) (k:κ):RelO (valV kvs k) (valueAt vs k):=by
 unfold KV at r
 induction r with
 | nil=>exact True.intro
 | @cons p q ps qs h t ih =>
  obtain ⟨h1,h2⟩:=h
  by_cases e:p.1=k
  ·have e':q.1=k:=h1.symm.trans e
   have b:valueAt (q :: qs) k=some q.2:=by simp [valueAt,List.find?_cons,e']
   rw [zky e,b];exact h2
  ·have e':¬ q.1=k:=fun z=>e (h1.trans z)
   have b:valueAt (q :: qs) k=valueAt qs k:=by simp [valueAt,List.find?_cons,e']
   rw [zjO e,b];exact ih
theorem KV.any {kvs:List (κ × V)} {vs:List (κ × Value)} (r:KV kvs vs) (k:κ):(kvs.any fun kv=>decide (kv.1=k))=vs.any fun kv=>decide (kv.1=k):=by
 unfold KV at r
 induction r with
 | nil=>rfl
 | cons h t ih=>rw [List.any_cons,List.any_cons,ih,h.1]
theorem KV.repl {kvs:List (κ × V)} {vs:List (κ × Value)} (r:KV kvs vs) (k:κ) {y:V} {u:Value} (ry:RelV y u) :
  KV (kvs.map fun kv=>if kv.1=k then (kv.1,y) else kv) (vs.map fun kv=>if kv.1=k then (kv.1,u) else kv):=by
 unfold KV at r ⊢
 induction r with
 | nil=>exact .nil
 | @cons p q ps qs h t ih =>
  rw [List.map_cons,List.map_cons]
  refine .cons ?_ ih
  obtain ⟨h1,h2⟩:=h
  by_cases e:p.1=k
  ·rw [if_pos e,if_pos (h1.symm.trans e)];exact ⟨h1,ry⟩
  ·rw [if_neg e,if_neg (fun z=>e (h1.trans z))];exact ⟨h1,h2⟩
theorem KV.put {kvs:List (κ × V)} {vs:List (κ × Value)} (r:KV kvs vs) (k:κ) {y:V} {u:Value} (ry:RelV y u):KV (putK kvs k y) (stored vs k u):=by
 unfold putK stored
 rw [r.any k]
 by_cases e:(vs.any fun kv=>decide (kv.1=k))=true
 ·rw [if_pos e,if_pos e];exact r.repl k ry
 ·rw [if_neg e,if_neg e];exact Paired.snoc r ⟨rfl,ry⟩
theorem KV.keys {kvs:List (κ × V)} {vs:List (κ × Value)} (r:KV kvs vs):kvs.map (·.1)=vs.map (·.1):=by
 unfold KV at r
 induction r with
 | nil=>rfl
 | cons h t ih=>rw [List.map_cons,List.map_cons,ih,h.1]
theorem KV.length {kvs:List (κ × V)} {vs:List (κ × Value)} (r:KV kvs vs):kvs.length=vs.length:=Paired.length r
end
theorem zn5 {P:Program} {w:World} {k:Key} {u:Value} (r:RelV (kV k) u):(zbi P w).is k u=true:=by
 cases k with
 | inl i=>obtain ⟨t,e⟩:=(show ∃ t,u=Value.int i t from r);subst e;exact zmj P w i t
 | inr x=>obtain ⟨t,e⟩:=(show ∃ t,u=Value.str x t from r);subst e;exact zmP P w x t
theorem zlY {P:Program} {w:World}:∀ {ks:List Key} {us:List Value},Vals (ks.map kV) us→ItemsAre (zbi P w) ks us
 | [],_,r=>by rw [List.map_nil] at r;cases r;exact .nil
 | k :: ks,_,r=>by
  rw [List.map_cons] at r
  cases r with
  | cons h t=>exact .cons (zn5 h) (zlY t)
abbrev KT (H:Hp):List (List Key × V)→List (List Key × Addr × Value)→Prop:=Paired fun p q=>p.1=q.1∧H q.2.1=some (.tup (p.1.map kV))∧RelV p.2 q.2.2
theorem KT.val {H:Hp} {kvs:List (List Key × V)} {xs:List (List Key × Addr × Value)} (r:KT H kvs xs) (k:List Key):RelO (valV kvs k) ((atKey xs k).map (·.2)):=by
 induction r with
 | nil=>exact True.intro
 | @cons p q ps qs h t ih =>
  obtain ⟨h1,_,h2⟩:=h
  by_cases e:p.1=k
  ·have e':q.1=k:=h1.symm.trans e
   have b:atKey (q :: qs) k=some q.2:=by simp [atKey,List.find?_cons,e']
   rw [zky e,b];exact h2
  ·have e':¬ q.1=k:=fun z=>e (h1.trans z)
   have b:atKey (q :: qs) k=atKey qs k:=by simp [atKey,List.find?_cons,e']
   rw [zjO e,b];exact ih
theorem KT.repl {H:Hp} {kvs:List (List Key × V)} {xs:List (List Key × Addr × Value)} (r:KT H kvs xs) (k:List Key) {y:V} {u:Value} (ry:RelV y u) :
  KT H (kvs.map fun kv=>if kv.1=k then (kv.1,y) else kv) (xs.map (putAt k u)):=by
 induction r with
 | nil=>exact .nil
 | @cons p q ps qs h t ih =>
  rw [List.map_cons,List.map_cons]
  refine .cons ?_ ih
  obtain ⟨h1,h2,h3⟩:=h
  unfold putAt
  by_cases e:p.1=k
  ·rw [if_pos e,if_pos (h1.symm.trans e)];exact ⟨h1,h2,ry⟩
  ·rw [if_neg e,if_neg (fun z=>e (h1.trans z))];exact ⟨h1,h2,h3⟩
theorem KT.put {H:Hp} {kvs:List (List Key × V)} {xs:List (List Key × Addr × Value)} (r:KT H kvs xs) (k:List Key) {b:Addr} {y:V} {u:Value} (hb:H b=some (.tup (k.map kV))) (ry:RelV y u) :
  KT H (putK kvs k y) (storedH xs k b u):=by
 have e:(kvs.any fun kv=>decide (kv.1=k))=(atKey xs k).isSome:=by
  rw [zno,(r.val k).ziW,Option.isSome_map]
 unfold putK storedH
 rw [e]
 by_cases q:(atKey xs k).isSome=true
 ·rw [if_pos q,if_pos q];exact r.repl k ry
 ·rw [if_neg q,if_neg q];exact Paired.snoc r ⟨rfl,hb,ry⟩
theorem KT.keeps {H H':Hp} {kvs:List (List Key × V)} {xs:List (List Key × Addr × Value)} (r:KT H kvs xs) (ht:∀ b ys,H b=some (.tup ys)→H' b=some (.tup ys)):KT H' kvs xs :=
 Paired.mapP r fun _ _ z=>⟨z.1,ht _ _ z.2.1,z.2.2⟩
section
variable {P:Program} {w:World} {H:Hp} {h:Heap} {a:Addr}
theorem zuB {u:HO} (ok:HOk P w H h) (e:Rd H a u):zc1 P w H h a u:=e.ok ok
theorem zog {kvs:List (Key × V)} (ok:HOk P w H h) (e:Rd H a (.dK kvs)):kvs.length ≤ sizeLine∧(a == sysModules)=false∧∃ vs,KV kvs vs∧h.DictOf (zbi P w) a vs :=
 show zc1 P w H h a (.dK kvs) from zuB ok e
theorem zpR {kvs:List (Key × V)} (ok:HOk P w H h) (e:H a=some (.dK kvs)):kvs.length ≤ sizeLine∧(a == sysModules)=false∧∃ vs,KV kvs vs∧h.DictOf (zbi P w) a vs:=zog ok (.inl e)
theorem zk7 {ks:List Key} (ok:HOk P w H h) (e:H a=some (.tup (ks.map kV))):(tupleKind (zbi P w)).is h ks a:=by
 obtain ⟨_,its,r,o,h1,h2,n,h3⟩:=(show zc1 P w H h a (.tup (ks.map kV)) from ok a _ e)
 exact ⟨o,its.toArray,n,h1,h2,h3,by simpa using zlY r⟩
theorem zoc {kvs:List (List Key × V)} (ok:HOk P w H h) (e:Rd H a (.dT kvs)):kvs.length ≤ sizeLine∧(a == sysModules)=false ∧
  ∃ xs,KT H kvs xs∧h.DictOfH (tupleKind (zbi P w)) a xs:=by
 obtain ⟨z,y,xs,r,o,es,ep,h1,h2,h3,h4,h5⟩:=(show zc1 P w H h a (.dT kvs) from zuB ok e)
 refine ⟨z,y,xs,r,o,es,ep,h1,h2,h3,h4,fun x hx=>?_,h5⟩
 have all:∀ {l:List (List Key × V)} {m:List (List Key × Addr × Value)},KT H l m→∀ x ∈ m,(tupleKind (zbi P w)).is h x.1 x.2.1:=by
  intro l m q
  induction q with
  | nil=>intro x hx;exact nomatch hx
  | @cons p q ps qs hq t ih =>
   intro x hx
   rcases List.mem_cons.mp hx with e | hx
   ·subst e
    exact zk7 ok (by rw [← hq.1];exact hq.2.1)
   ·exact ih x hx
 exact all r x hx
theorem zwG {kvs:List (List Key × V)} (ok:HOk P w H h) (e:H a=some (.dT kvs)):kvs.length ≤ sizeLine∧(a == sysModules)=false ∧
  ∃ xs,KT H kvs xs∧h.DictOfH (tupleKind (zbi P w)) a xs:=zoc ok (.inl e)
end
def DGet (H:Hp) (a:Addr) (y:V) (r:Option V):Prop :=
 (∃ kvs k,Rd H a (.dK kvs)∧y=kV k∧r=valV kvs k)∨∃ kvs k b,Rd H a (.dT kvs)∧y = .ref b∧H b=some (.tup (k.map kV))∧r=valV kvs k
def DPut (H:Hp) (a:Addr) (y v:V) (H':Hp):Prop :=
 (∃ kvs k,H a=some (.dK kvs)∧y=kV k∧kvs.length < sizeLine∧H'=upd H a (.dK (putK kvs k v))) ∨
 ∃ kvs k b,H a=some (.dT kvs)∧y = .ref b∧H b=some (.tup (k.map kV))∧kvs.length < sizeLine∧H'=upd H a (.dT (putK kvs k v))
theorem DGet.k {H:Hp} {a:Addr} {kvs:List (Key × V)} {k:Key} (e:H a=some (.dK kvs)):DGet H a (kV k) (valV kvs k) := .inl ⟨kvs,k, .inl e,rfl,rfl⟩
theorem DGet.t {H:Hp} {a b:Addr} {kvs:List (List Key × V)} {k:List Key} (e:H a=some (.dT kvs)) (eb:H b=some (.tup (k.map kV))):DGet H a (.ref b) (valV kvs k) := .inr ⟨kvs,k,b, .inl e,rfl,eb,rfl⟩
theorem DPut.k {H:Hp} {a:Addr} {kvs:List (Key × V)} {k:Key} {v:V} (e:H a=some (.dK kvs)) (hl:kvs.length < sizeLine):DPut H a (kV k) v (upd H a (.dK (putK kvs k v))) := .inl ⟨kvs,k,e,rfl,hl,rfl⟩
theorem DPut.t {H:Hp} {a b:Addr} {kvs:List (List Key × V)} {k:List Key} {v:V} (e:H a=some (.dT kvs)) (eb:H b=some (.tup (k.map kV))) (hl:kvs.length < sizeLine) :
  DPut H a (.ref b) v (upd H a (.dT (putK kvs k v))) := .inr ⟨kvs,k,b,e,rfl,eb,hl,rfl⟩
section
variable {X:Cx} {pins:List (Addr × Obj)} {σ:St} {H:Hp} {s:Shared} {a:Addr} {y v:V} {u r:Value} {o:Option V} {A:Around} {E:Value→Shared→Prop}
theorem Inv.big (I:Inv X pins σ H s):sysModules < s.heap.objs.size:=by
 have h:mainGlobals < s.heap.objs.size:=(I.mod.glob.keeps I.bk).lt
 exact Nat.lt_trans (by decide) h
theorem zqv {Q:Value→Shared→Prop} (hu:A.units + 1 < cLine) (I:Inv X pins σ H s) (g:DGet H a y (some v)) (ry:RelV y u) (h:∀ w' s',Inv X pins σ H s'→RelV v w'→Q w' s') :
  wpAny (model X.prog X.w) A (getItem (.ref a) u) Q E s:=by
 rcases g with ⟨kvs,k,e,ey,l⟩ | ⟨kvs,k,b,e,ey,eb,l⟩
 ·subst ey
  obtain ⟨z,hd,vs,rel,dd⟩:=zog I.hok e
  obtain ⟨w',hw,rw'⟩:=RelO.some_of (v:=v) (o:=valueAt vs k) (by rw [l];exact rel.val k)
  exact wpAny_getItem_of (zn5 ry) dd.mapOf hw (h w' _ (I.tok _) rw')
 ·subst ey
  cases (show u=Value.ref b from ry)
  obtain ⟨z,hd,xs,rel,dd⟩:=zoc I.hok e
  obtain ⟨w',hw,rw'⟩:=RelO.some_of (v:=v) (o:=(atKey xs k).map (·.2)) (by rw [l];exact rel.val k)
  obtain ⟨p,hp,hp2⟩:=Option.map_eq_some_iff.mp hw
  refine wpAny_getItem_heap (tupleKind_room_in1 hu) (zk7 I.hok eb) dd hp ?_
  rw [hp2]
  exact h w' _ (I.tok _) rw'
theorem ztV {Q:Value→Shared→Prop} (hu:A.units + 1 < cLine) (I:Inv X pins σ H s) (g:DGet H a y o) (ry:RelV y u) (h:∀ s',Inv X pins σ H s'→Q (.bool (!o.isSome)) s') :
  wpAny (model X.prog X.w) A (compareOp .NotIn u (.ref a)) Q E s:=by
 rcases g with ⟨kvs,k,e,ey,l⟩ | ⟨kvs,k,b,e,ey,eb,l⟩
 ·subst ey
  obtain ⟨z,hd,vs,rel,dd⟩:=zog I.hok e
  refine wpAny_notIn_of (zn5 ry) hd dd.mapOf ?_
  rw [← (rel.val k).ziW,← l]
  exact h _ (I.tok _)
 ·subst ey
  cases (show u=Value.ref b from ry)
  obtain ⟨z,hd,xs,rel,dd⟩:=zoc I.hok e
  refine wpAny_notIn_heap (tupleKind_room_in1 hu) (zk7 I.hok eb) hd dd ?_
  have q:=(rel.val k).ziW
  rw [Option.isSome_map] at q
  rw [← q,← l]
  exact h _ (I.tok _)
theorem zmb {h':Heap} {t':Nat} {ob:HO} (I:Inv X pins σ H s) (mu:Mut (H a)) (hs:Heap.SameBut a s.heap h') (he:∃ q,h'.get? a=some q) (new:zc1 X.prog X.w (upd H a ob) h' a ob) :
  Inv X pins σ (upd H a ob) { s with heap:=h',toks:=t' } :=
 I.write (x:=a) (e:=a) mu (.inl rfl) (fun b q hb z=>(hs.2 b hb).trans z) he new
theorem zsj {P:Program} {w:World} {H':Hp} {h':Heap} {kvs:List (Key × V)} {vs:List (Key × Value)} (z:kvs.length ≤ sizeLine) (hd:(a == sysModules)=false) (rel:KV kvs vs) (dd:h'.DictOf (zbi P w) a vs) :
  zc1 P w H' h' a (.dK kvs):=⟨z,hd,vs,rel,dd⟩
theorem zqk {H':Hp} {Q:Unit→Shared→Prop} (hu:A.units + 1 < cLine) (I:Inv X pins σ H s) (g:DPut H a y v H') (ry:RelV y u) (rv:RelV v r) (h:∀ s',Inv X pins σ H' s'→Q () s') :
  wpAny (model X.prog X.w) A (setItem (.ref a) u r) Q E s:=by
 rcases g with ⟨kvs,k,e,ey,l,eH⟩ | ⟨kvs,k,b,e,ey,eb,l,eH⟩
 ·subst ey eH
  obtain ⟨z,hd,vs,rel,dd⟩:=zpR I.hok e
  have hz:vs.length ≤ sizeLine:=by rw [← rel.length];exact z
  have hl:(putK kvs k v).length ≤ sizeLine:=by have:=zgH kvs k v;omega
  refine wpAny_setItem_pairs (hsz:=hz) (zn5 ry) dd fun h' dd' hs=>h _ ?_
  have he:∃ q,h'.get? a=some q:=let ⟨q,_,_,hq,_⟩:=dd'; ⟨q,hq⟩
  exact zmb I (by rw [e];exact True.intro) hs he (zsj hl hd (rel.put k rv) dd')
 ·subst ey eH
  cases (show u=Value.ref b from ry)
  obtain ⟨z,hd,xs,rel,dd⟩:=zwG I.hok e
  have hz:xs.length ≤ sizeLine:=by rw [← Paired.length rel];exact z
  have hl:(putK kvs k v).length ≤ sizeLine:=by have:=zgH kvs k v;omega
  refine wpAny_setItem_heap (hsz:=hz) (tupleKind_room_in1 hu) (zk7 I.hok eb) dd fun h' dd' hs=>h _ ?_
  obtain ⟨q,es,ep,hq,h2,h3,h4,_,h5⟩:=dd'
  refine zmb I (by rw [e];exact True.intro) hs ⟨q,hq⟩ ⟨hl,hd,_,(rel.put k eb rv).keeps fun c ys ec=>?_,q,es,ep,hq,h2,h3,h4,h5⟩
  rw [zat (zs6 ec e (fun z=>nomatch z))]
  exact ec
end
section
variable {X:Cx} {pins:List (Addr × Obj)} {σ:St} {H:Hp} {s:Shared} {a:Addr} {kvs:List (Key × V)} {k:Key} {u:Value} {A:Around} {E:Value→Shared→Prop}
end
def NoSl (i:Expr):Prop:=∀ ov iv,subscripted i false ov iv=operate [ov,iv] (getItem ov iv)
theorem zto {prog:Program} {w:World} {A:Around} {E:Value→Shared→Prop} {s:Shared} {env:Env} {value slice:Expr} {pos:Pos} {T id:String} {Q:Value→Shared→Prop}
  (hl:typeLookup (.type T) "__getitem__" = pure (some (.builtin id))) (hs:NoSl slice)
  (h:wpAny (model prog w) A (eval value env) (fun o s₁=>wpAny (model prog w) A (eval slice env) (fun i s₂=>s₂.TypeIs o T∧wpAny (model prog w) A (getItem o i) Q E s₂) E s₁) E s) :
  wpAny (model prog w) A (eval (.Subscript value slice pos) env) Q E s:=by
 refine Subscript_ (wpAny_mono h (fun o s₁ h₁=>wpAny_mono h₁ (fun i s₂ h₂=>?_) fun _ _ x=>x) fun _ _ x=>x)
 obtain ⟨hT,h₂⟩:=h₂
 unfold subscriptTail
 refine wpAny_bind ?_
 rw [getitemInPython_of_ne hT.not_modules]
 refine wpAny_bind (wpAny_specialOf hT hl ?_)
 have fin:wpAny (model prog w) A (subscripted slice false o i) (fun r s₃=>wpAny (model prog w) A (letTemporaryGo value o r >>= fun _=>pure r) Q E s₃) E s₂:=by
  rw [hs o i]
  exact wpAny_operating (wpAny_mono h₂ (fun r s₃ h₃=>wpAny_bind (wpAny_letTemporaryGo (wpAny_pure h₃))) fun _ _ x=>x)
 first
  | exact wpAny_pure (wpAny_bind fin)
  | exact wpAny_bind (wpAny_pure (wpAny_bind fin))
  | exact wpAny_bind fin
theorem zmm {X:Cx} {pins:List (Addr × Obj)} {σ:St} {H:Hp} {s:Shared} {a:Addr} {y:V} {o:Option V} (I:Inv X pins σ H s) (g:DGet H a y o):s.TypeIs (.ref a) "dict":=by
 rcases g with ⟨kvs,k,e,_,_⟩ | ⟨kvs,k,b,e,_,_,_⟩
 ·obtain ⟨_,_,vs,_,dd⟩:=zog I.hok e
  exact dd.typeIs
 ·obtain ⟨_,_,xs,_,dd⟩:=zoc I.hok e
  exact dd.typeIs
def zwo (td ty:TE):TE:=fun σ H Q=>td σ H fun x H1=>ty σ H1 fun y H2=>∃ a v,x = .ref a∧DGet H2 a y (some v)∧Q v H2
def tDIn (ty td:TE):TE:=fun σ H Q=>ty σ H fun y H1=>td σ H1 fun x H2=>∃ a o,x = .ref a∧DGet H2 a y o∧Q (.bl o.isSome) H2
def zqa (ty td:TE):TE:=fun σ H Q=>ty σ H fun y H1=>td σ H1 fun x H2=>∃ a o,x = .ref a∧DGet H2 a y o∧Q (.bl (!o.isSome)) H2
def zwt (td ty tv:TE):TS:=fun D σ H=>tv σ H fun v H1=>td σ H1 fun x H2=>ty σ H2 fun y H3=>∃ a H4,x = .ref a∧DPut H3 a y v H4∧D.nx σ H4
section
variable {X:Cx} {o i e value:Expr} {pos pos' tpos:Pos} {td ty tv:TE}
theorem ztv (hu:X.A.units + 1 < cLine) (ho:PE X o td) (hi:PE X i ty) (hs:NoSl i):PE X (.Subscript o i pos) (zwo td ty):=by
 intro pins s σ H Q I h
 refine zto PySem.F.slot_dict_getitem.lookup hs (thn (ho pins s σ H _ I h) fun u s1 ⟨x,H1,I1,rx,q1⟩=>thn (hi pins s1 σ H1 _ I1 q1) fun iv s2 ⟨y,H2,I2,ry,a,v,ex,g,q2⟩=>?_)
 subst ex
 obtain rfl:u=Value.ref a:=rx
 exact ⟨zmm I2 g,zqv hu I2 g ry fun w' s3 I3 rw'=>⟨v,H2,I3,rw',q2⟩⟩
theorem zoH (hu:X.A.units + 1 < cLine) (hi:PE X i ty) (ho:PE X o td):PC X .NotIn i o (zqa ty td):=by
 intro pins s σ H Q I h
 refine thn (hi pins s σ H _ I h) fun iv s1 ⟨y,H1,I1,ry,q1⟩=>thn (ho pins s1 σ H1 _ I1 q1) fun u s2 ⟨x,H2,I2,rx,a,ov,ex,g,q2⟩=>?_
 subst ex
 obtain rfl:u=Value.ref a:=rx
 exact ztV hu I2 g ry fun s3 I3=>⟨.bl (!ov.isSome),H2,I3,rfl,q2⟩
theorem ztx (hu:X.A.units + 1 < cLine) (ho:PE X o td) (hi:PE X i ty) (hv:PE X value tv) (hs:swapsWith value (some (.Subscript o i pos')) pos.line X.env=pure false) :
  PS X (.Assign [.Subscript o i pos'] value pos) (zwt td ty tv):=by
 intro pins s σ H D I h
 refine wpAny_Assign_Subscript (thn (hv pins s σ H _ I h) fun r s1 ⟨v,H1,I1,rv,q1⟩=>thn (ho pins s1 σ H1 _ I1 q1) fun u s2 ⟨x,H2,I2,rx,q2⟩=>thn (hi pins s2 σ H2 _ I2 q2) fun iv s3 ⟨y,H3,I3,ry,a,H4,ex,g,q3⟩=>?_) hs
 subst ex
 obtain rfl:u=Value.ref a:=rx
 exact zqk hu I3 g ry rv fun s4 I4=>⟨σ,H4,I4,q3⟩
end
theorem znu {P:Program} {w:World} {H:Hp} (h:Heap) (hb:sysModules < h.objs.size):zc1 P w H (h.push { cls := .type "dict",data := .dict #[] }) h.objs.size (.dK []) :=
 ⟨Nat.zero_le _,beq_eq_false_iff_ne.mpr (Ne.symm (Nat.ne_of_lt hb)),[], .nil,Heap.DictOf.new h⟩
def zvg:TE:=fun _ H Q=>∀ p,H p=none→Q (.ref p) (upd H p (.dK []))
section
variable {X:Cx} {pos:Pos}
theorem zq1:PE X (.Dict [] [] pos) zvg:=fun pins s σ H Q I h =>
 wpAny_Dict_empty ⟨.ref s.heap.objs.size,_,I.laid (a:=s.heap.objs.size) (o := .dK []) (t':=s.toks) (fun _ _ q=>Heap.get?_push_of_some _ q) (Nat.le_refl _) (znu s.heap I.big),rfl,h _ (I.hok.fresh (Nat.le_refl _))⟩
end
def zpH:List (TE × TE)→St→Hp→(List (V × V)→Hp→Prop)→Prop
 | [],_,H,Q=>Q [] H
 | (tk,tv) :: r,σ,H,Q=>tk σ H fun x H1=>tv σ H1 fun y H2=>zpH r σ H2 fun ps H3=>Q ((x,y) :: ps) H3
abbrev VV:List (V × V)→List (Value × Value)→Prop:=Paired fun p q=>RelV p.1 q.1∧RelV p.2 q.2
def PPs (X:Cx) (pos:Pos) (keys:List (Option Expr)) (values:List Expr) (trs:List (TE × TE)):Prop :=
 ∀ (pins:List (Addr × Obj)) (s:Shared) (σ:St) (H:Hp) (Q:List (V × V)→Hp→Prop),Inv X pins σ H s→zpH trs σ H Q →
  wpAny (model X.prog X.w) X.A (evalPairs (pairTrees keys values X.env pos)) (fun vs s'=>∃ ps H',Inv X pins σ H' s'∧VV ps vs∧Q ps H') X.xe s
theorem ztI {X:Cx} {pos:Pos}:PPs X pos [] [] []:=fun pins s σ H Q I h=>pairTrees_nil_walk ⟨[],H,I, .nil,h⟩
theorem znn {X:Cx} {pos:Pos} {k v:Expr} {ks:List (Option Expr)} {vs:List Expr} {tk tv:TE} {trs:List (TE × TE)} (hk:PE X k tk) (hv:PE X v tv) (hr:PPs X pos ks vs trs) :
  PPs X pos (some k :: ks) (v :: vs) ((tk,tv) :: trs):=fun pins s σ H Q I h =>
 pairTrees_cons_walk (thn (hk pins s σ H _ I h) fun u s1 ⟨x,H1,I1,rx,q1⟩=>thn (hv pins s1 σ H1 _ I1 q1) fun w2 s2 ⟨y,H2,I2,ry,q2⟩ =>
  thn (hr pins s2 σ H2 _ I2 q2) fun ws s3 ⟨ps,H3,I3,rel,q3⟩=>⟨(x,y) :: ps,H3,I3, .cons ⟨rx,ry⟩ rel,q3⟩)
def zlq (kvs more:List (Key × V)):List (Key × V):=more.foldl (fun acc kv=>putK acc kv.1 kv.2) kvs
theorem KV.merge:∀ {more:List (Key × V)} {rs:List (Key × Value)} {kvs:List (Key × V)} {vs:List (Key × Value)},KV more rs→KV kvs vs→KV (zlq kvs more) (merged vs rs):=by
 intro more rs kvs vs r
 unfold KV at r
 induction r generalizing kvs vs with
 | nil=>intro q;exact q
 | @cons p q ps qs h t ih =>
  intro r0
  have e:KV (putK kvs p.1 p.2) (stored vs q.1 q.2):=by
   have:=r0.put p.1 h.2
   rw [← h.1];exact this
  exact ih e
theorem zg7:∀ (more kvs:List (Key × V)),(zlq kvs more).length ≤ kvs.length + more.length
 | [],kvs=>by show kvs.length ≤ kvs.length + 0;omega
 | p :: r,kvs=>by
  have h1:=zg7 r (putK kvs p.1 p.2)
  have h2:=zgH kvs p.1 p.2
  show (zlq (putK kvs p.1 p.2) r).length ≤ _
  rw [List.length_cons];omega
theorem zjA {P:Program} {w:World}:∀ {kvs:List (Key × V)} {ws:List (Value × Value)},VV (kvs.map fun kv=>(kV kv.1,kv.2)) ws→∃ rs,Carries (zbi P w) ws rs∧KV kvs rs
 | [],_,r=>by rw [List.map_nil] at r;cases r;exact ⟨[],True.intro, .nil⟩
 | p :: kvs,_,r=>by
  rw [List.map_cons] at r
  cases r with
  | @cons a b as bs h t =>
   obtain ⟨rs,c,q⟩:=zjA (P:=P) (w:=w) t
   obtain ⟨b1,b2⟩:=b
   exact ⟨(p.1,b2) :: rs,⟨zn5 h.1,rfl,c⟩, .cons ⟨rfl,h.2⟩ q⟩
def zwa (trs:List (TE × TE)):TE:=fun σ H Q=>∀ p,H p=none→zpH trs σ (upd H p (.dK [])) fun ps H2=>H2 p=some (.dK [])∧∃ kvs:List (Key × V),ps=kvs.map (fun kv=>(kV kv.1,kv.2))∧kvs.length ≤ 15∧Q (.ref p) (upd H2 p (.dK (zlq [] kvs)))
theorem ztq {X:Cx} {pos:Pos} {keys:List (Option Expr)} {values:List Expr} {trs:List (TE × TE)} (h:PPs X pos keys values trs) (hall:keys.all (·.isSome)=true) (hl:keys.length=values.length) (h0:keys ≠ [])
  (h15:keys.length ≤ 15):PE X (.Dict keys values pos) (zwa trs):=by
 intro pins s σ H Q I q
 have hn:=I.hok.fresh (Nat.le_refl s.heap.objs.size)
 have I1:=I.laid (a:=s.heap.objs.size) (o := .dK []) (h':=s.heap.push { cls := .type "dict",data := .dict #[] }) (t':=s.toks) (fun _ _ q=>Heap.get?_push_of_some _ q) (Nat.le_refl _) (znu s.heap I.big)
 refine wpAny_Dict_walk (knd:=zbi X.prog X.w) hall hl h0 h15 (thn (h pins _ σ _ _ I1 (q _ hn)) fun ws s2 ⟨ps,H2,I2,rel,e,kvs,ep,lk,q2⟩=>?_)
 subst ep
 obtain ⟨rs,c,rk⟩:=zjA (P:=X.prog) (w:=X.w) rel
 obtain ⟨z,hd,vs0,r0,dd⟩:=zpR I2.hok e
 cases r0
 refine ⟨rs,c,dd,fun h' dd' hs=>⟨.ref s.heap.objs.size,_,?_,rfl,q2⟩⟩
 have hz:(zlq [] kvs).length ≤ sizeLine:=by
  have h1:=zg7 kvs []
  rw [List.length_nil] at h1
  rw [sizeLine_eq];omega
 have he:∃ q,h'.get? s.heap.objs.size=some q:=let ⟨q,_,_,hq,_⟩:=dd'; ⟨q,hq⟩
 exact zmb I2 (by rw [e];exact True.intro) hs he (zsj hz hd (rk.merge .nil) dd')
structure M1 (X:Cx) (o:Expr) (m:Str) (apos:Pos) (e:Expr) (cpos:Pos):Prop where
 base:attributeBase o m X.env (eval o X.env)=eval o X.env
 few:((backTo cpos (starEach [e] X.env)).all (fun x=>!x.1) && (backToKw cpos (keywordEach [] X.env)).all (fun x=>x.1.isSome)
  && decide (([e] : List Expr).length + ([] : List Keyword).length + (if ([] : List Keyword).isEmpty then 0 else 1) < 30))=true
 line:(apos.endLine == cpos.line)=true
 trees:backTo cpos (starEach [e] X.env)=[(false,eval e X.env)]
structure M2 (X:Cx) (o:Expr) (m:Str) (apos:Pos) (e f:Expr) (cpos:Pos):Prop where
 base:attributeBase o m X.env (eval o X.env)=eval o X.env
 few:((backTo cpos (starEach [e,f] X.env)).all (fun x=>!x.1) && (backToKw cpos (keywordEach [] X.env)).all (fun x=>x.1.isSome)
  && decide (([e,f] : List Expr).length + ([] : List Keyword).length + (if ([] : List Keyword).isEmpty then 0 else 1) < 30))=true
 line:(apos.endLine == cpos.line)=true
 trees:backTo cpos (starEach [e,f] X.env)=[(false,eval e X.env),(false,eval f X.env)]
def IsD (H:Hp) (a:Addr):Prop:=(∃ kvs,Rd H a (.dK kvs))∨∃ kvs,Rd H a (.dT kvs)
theorem zo2 {X:Cx} {pins:List (Addr × Obj)} {σ:St} {H:Hp} {s:Shared} {a:Addr} (I:Inv X pins σ H s) (d:IsD H a) :
  s.TypeIs (.ref a) "dict"∧(∀ b,Value.ref a = .ref b→∃ ob,s.heap.get? b=some ob∧ob.dict=none)∧(a == sysModules)=false:=by
 rcases d with ⟨kvs,e⟩ | ⟨kvs,e⟩
 ·obtain ⟨_,hd,vs,_,dd⟩:=zog I.hok e
  refine ⟨dd.typeIs,fun b q=>?_,hd⟩
  cases q
  obtain ⟨ob,_,_,h1,h2,_⟩:=dd
  exact ⟨ob,h1,h2.2.1⟩
 ·obtain ⟨_,hd,xs,_,dd⟩:=zoc I.hok e
  refine ⟨dd.typeIs,fun b q=>?_,hd⟩
  cases q
  obtain ⟨ob,_,_,h1,h2,_⟩:=dd
  exact ⟨ob,h1,h2.2.1⟩
section
variable {X:Cx} {pins:List (Addr × Obj)} {σ:St} {H:Hp} {s:Shared} {a:Addr} {y d:V} {u r:Value} {o:Option V} {A:Around} {E:Value→Shared→Prop}
theorem zuu {Q:Value→Shared→Prop} (hu:A.units + 1 < cLine) (I:Inv X pins σ H s) (g:DGet H a y o) (ry:RelV y u) (rd:RelV d r) (h:∀ w' s',Inv X pins σ H s'→RelV (o.getD d) w'→Q w' s') :
  wpAny (model X.prog X.w) A (call (.builtin "dict.get") [.ref a,u,r]) Q E s:=by
 rcases g with ⟨kvs,k,e,ey,l⟩ | ⟨kvs,k,b,e,ey,eb,l⟩
 ·subst ey
  obtain ⟨z,hd,vs,rel,dd⟩:=zog I.hok e
  refine call_meetsIn PySem.F.slot_dict_get dd.typeIs PySem.F.entry_dict_get (PySem.F.args_dict_get_3 _ _ _) (meets_dict_get_default (zbi X.prog X.w) a (zn5 ry) hd r) ⟨_,dd.mapOf,h _ _ (I.tok _) ?_⟩
  rw [l]
  exact (rel.val k).getD rd
 ·subst ey
  cases (show u=Value.ref b from ry)
  obtain ⟨z,hd,xs,rel,dd⟩:=zoc I.hok e
  refine call_meetsIn PySem.F.slot_dict_get dd.typeIs PySem.F.entry_dict_get (PySem.F.args_dict_get_3 _ _ _) (meetsH_dict_get_default (tupleKind (zbi X.prog X.w)) a b hd r) ⟨tupleKind_room_in1 hu,k,xs,zk7 I.hok eb,dd,h _ _ (I.tok _) ?_⟩
  rw [l]
  exact (rel.val k).getD rd
end
def zu5 (td ty tx:TE):TE:=fun σ H Q=>td σ H fun x H1=>∃ a,x = .ref a∧IsD H1 a∧ty σ H1 fun y H2=>tx σ H2 fun z H3=>∃ o,DGet H3 a y o∧Q (o.getD z) H3
section
variable {X:Cx} {o e f:Expr} {apos cpos:Pos} {td ty tx:TE}
theorem zrl (hu:X.A.units + 1 < cLine) (ho:PE X o td) (he:PE X e ty) (hf:PE X f tx) (m:M2 X o "get" apos e f cpos):PE X (.Call (.Attribute o "get" apos) [e,f] [] cpos) (zu5 td ty tx):=by
 intro pins s σ H Q I h
 refine wpAny_Call_method m.base m.few m.line PySem.F.plainAttrs_dict PySem.F.slot_dict_get PySem.F.type_dict_get (thn (ho pins s σ H _ I h) fun u s1 ⟨x,H1,I1,rx,a,ex,d,q1⟩=>?_)
 subst ex
 obtain rfl:u=Value.ref a:=rx
 obtain ⟨t1,t2,_⟩:=zo2 I1 d
 refine ⟨t1,t2,?_⟩
 rw [m.trees]
 refine Calls.callWith_builtin rfl (Calls.evalArgs_plain (Calls.spliced_cons (thn (he pins s1 σ H1 _ I1 q1) fun iv s2 ⟨y,H2,I2,ry,q2⟩ =>
  Calls.spliced_cons (thn (hf pins s2 σ H2 _ I2 q2) fun fv s3 ⟨z,H3,I3,rz,ov,g,q3⟩=>Calls.spliced_nil ?_))))
 exact zuu hu I3 g ry rz fun w' s4 I4 rw'=>⟨_,H3,I4,rw',q3⟩
end
section
variable {X:Cx} {pins:List (Addr × Obj)} {σ:St} {H:Hp} {s:Shared} {a:Addr} {kvs:List (Key × V)} {A:Around} {E:Value→Shared→Prop}
end
section
variable {X:Cx} {pins:List (Addr × Obj)} {σ:St} {H:Hp} {s:Shared} {a:Addr} {y:V} {u:Value} {A:Around} {E:Value→Shared→Prop}
end
end L2
namespace Att
open PySem PySem.W PySem.Calls PyProof.Rows
theorem ziK {P:Params} {h:Heap}:∀ (ns:List Int) (vs:List Value),WellAll P h vs (ns.map WData.int)→IntsAre vs ns:=by
 intro ns
 induction ns with
 | nil =>
  intro vs w
  rw [List.map_nil] at w
  cases w
  exact .nil
 | cons n ns ih =>
  intro vs w
  rw [List.map_cons] at w
  cases w with
  | cons a b =>
   cases a
   exact .cons _ _ (ih _ b)
theorem zqf {l:OpenLaw} {n:Nat} (hn:l.most=some n) {P:Params} {h:Heap} {args:List WData} {vals:List Value}
  (hpre:l.row.toRowW.claim.pre args=true) (hwl:WellAll P h vals args) :
  ∃ a vs ns,vals=[Value.ref a]∧args=[WData.list (ns.map WData.int)]∧h.get? a=some { cls := .type "list",data := .seq vs.toArray }∧IntsAre vs ns∧ns.length ≤ n:=by
 have hsh:WShape.hasAll [] args [.list .int]=true:=(pre_splitW hpre).1
 have hc:l.pre.holds [] { args:=args }=true:=(pre_splitW hpre).2
 obtain ⟨d,r,rfl,h1,h2⟩:=hasAllW_cons hsh
 obtain rfl:=hasAllW_nil h2
 obtain ⟨xs,rfl,h3⟩:=hasW_list h1
 obtain ⟨ns,rfl⟩:=items_int h3
 have hlen:ns.length ≤ n:=by
  unfold OpenLaw.pre at hc
  have h4:(WTm.not (.lt (.lit (.int (n:Int))) (.len (.arg 0)))).holds [] { args:=[.list (ns.map .int)] }=true:=by
   have h4:=(holds_andW hc).1
   rw [hn] at h4
   exact h4
  have h5:=condW_of h4 (w_not (w_lt w_lit (w_len_list (w_arg rfl))))
  rw [List.length_map] at h5
  refine Nat.le_of_not_lt fun q=>?_
  have q':(n:Int) < ((ns.length:Nat):Int):=by omega
  first
   | (rw [decide_eq_true q'] at h5;exact absurd h5 (by decide))
   | (simp at h5;omega)
 cases hwl with
 | cons w1 w2 =>
  cases w2
  cases w1 with
  | list ho hall=>exact ⟨_,_,ns,rfl,rfl,ho,ziK ns _ hall,hlen⟩
theorem zpD (l:OpenLaw) (args:List WData):l.row.toRowW.claim.post args (.bool true) args=true :=
 postW_of (r:=l.row.toRowW) (X:=(true == true))
  (show WShape.has [] (.bool true) .bool=true by first | rfl | decide | simp [WShape.has,WShape.arms,WShape.armsAll])
  (show (WTm.eq .res (.lit (.bool true))).value [] { args:=args,res:=some (.bool true),after:=args }=some (.bool (true == true)) from w_eq_bool (w_res rfl) w_lit) rfl
theorem zmL {l:OpenLaw} {n:Nat} {q:Program} {loose:List Str} {XP:(Str→Option Value)→Heap→Prop} {YP:World→Heap→Prop} {d:DefRec}
  (hn:l.most=some n) (hdf:d.params.defaults=[])
  (call:∀ (w:World) (s₀ s₁:Shared) (mg mb:Str→Option Value) (fa:Addr) (o:Obj) (pm cd doc:Value) (a:Addr) (vs:List Value) (ns:List Int),
   Ground q loose [] XP w s₀ mg mb s₁.heap→YP w s₁.heap →
   s₁.heap.get? fa=some o→o.data = .func (docDef d.name d.params d.body d.scope pm cd doc)→s₁.heap.CodeRec cd d.name→mg d.name=some (.ref fa) →
   s₁.heap.get? a=some { cls := .type "list",data := .seq vs.toArray }→IntsAre vs ns→ns.length ≤ n→s₁.gens = #[] →
   codeAny (model l.prog w) callerA (.call (.ref fa) ⟨[.ref a],[]⟩) (fun r s'=>r = .ok (.ret (.bool true))∧OldK s₁.heap s'.heap∧s'.os=s₁.os∧AllBare s'.gens) s₁) :
  WalkO q loose XP YP l.row.toRowW d [] (fun f vs=>PySem.call f vs):=by
 intro w s₀ s₁ mg mb G Y fa o pm cd doc dV kV ho hd hcd hD hmg hg args vals as hpre hlay hrd hwl hlo
 obtain rfl:dV = .none:=Dflts.none hD hdf
 obtain rfl:kV = .none:=Dflts.noKw hD
 obtain ⟨a,vs,ns,rfl,rfl,hobj,hints,hlen⟩:=zqf hn hpre hwl
 refine enter_call (codeAny_mono (call w s₀ s₁ mg mb fa o pm cd doc a vs ns G Y ho (fd_plain hd) hcd hmg hobj hints hlen hg) fun r s' hq=>?_)
 obtain ⟨rfl,h2,h3,h4⟩:=hq
 exact ⟨.inl ⟨.bool true, .bool true,[],rfl,fun _=>rfl, .bool true,zpD l _,fun _=>⟨List.Pairwise.nil,fun _ hm=>(nomatch hm)⟩⟩,h2,h3,h4⟩
section
variable {prog:Program} {w:World} {A:Around} {E:Value→Shared→Prop} {s:Shared} {K:Frag}
def ledger (h:Heap) (L d:Addr):List (Addr × Obj):=(List.range h.objs.size).filterMap fun a=>if a=L∨a=d then none else (h.get? a).map fun o=>(a,o)
end
end Att
namespace L2
open PySem PySem.Spec PyProof.Rows
theorem ziz:∀ {vs:List Value} {ns:List Int},IntsAre vs ns→Vals (ns.map V.int) vs
 | _,_, .nil => .nil
 | _,_, .cons n t h => .cons ⟨t,rfl⟩ (ziz h)
def Only (H:Hp):Prop:=∀ b,H b=none∨∃ o xs,H b=some (.frz o (.lst xs))
theorem zqX {P:Program} {w:World} {K:PySem.W.Frag} {mg mb:Str→Option Value} {CX:CXT} {k:Nat} {fa a:Addr} {fd:FuncData} {x:Str} {sp:Sp} {s₁:Shared} {vs:List Value} {ns:List Int}
  (KX:K.In s₁.heap) (hns:s₁.heap.Ns mainGlobals mg) (hb:s₁.heap.Ns builtinsNs mb) (hbb:∀ x:Str,x ≠ "__name__"→mb x=bootBuiltins x) (hlim:s₁.heap.NoLimit) (hg:s₁.gens = #[])
  (ha:s₁.heap.get? a=some { cls := .type "list",data := .seq vs.toArray }) (hi:IntsAre vs ns) (hl:ns.length ≤ sizeLine) (hr:Room k callerA)
  (F:∀ base:Heap,K.In base→base.Ns mainGlobals mg→FnOk P w K mg base CX k fa fd [x] sp) (hbind:∀ (s:Shared) (u:Value),BindsTo s fd ⟨[u],[]⟩ [(x,u)])
  (hsp:∀ H:Hp,Only H→SqL K H a (ns.map V.int)→sp [.ref a] H (fun v _=>v = .bl true) fun _ _ _=>False)
  (hCX:∀ H e s',CX [] H s₁ (fun _ _ _=>False) e s'→False) :
  codeAny (model P w) callerA (.call (.ref fa) ⟨[.ref a],[]⟩) (fun r s'=>r = .ok (.ret (.bool true))∧OldK s₁.heap s'.heap∧s'.os=s₁.os∧AllBare s'.gens) s₁:=by
 have rv:=ziz hi
 have lenV:=hi.length
 have core:∀ H:Hp,Only H→SqL K H a (ns.map V.int)→HOk P w H s₁.heap→(∀ b,H b ≠ none→b=a)→(H a ≠ none→K.lookup a=none) →
   codeAny (model P w) callerA (.call (.ref fa) ⟨[.ref a],[]⟩) (fun r s'=>r = .ok (.ret (.bool true))∧OldK s₁.heap s'.heap∧s'.os=s₁.os∧AllBare s'.gens) s₁:=by
  intro H hO hS hok hA hK
  have base_of:∀ {b:Addr} {o:Obj},s₁.heap.get? b=some o→H b=none→(hidT s₁.heap H).get? b=some o:=fun e n=>zrH e n
  have noA:∀ {b:Addr} {o:Obj} {es:Array DictEntry} {ep:Nat},s₁.heap.get? b=some o→o.data = .dict es ep→H b=none:=fun {b o es ep} e d=>by
   cases q:H b with
   | none=>rfl
   | some u =>
    have e':b=a:=hA b (by rw [q];simp)
    subst e'
    rw [ha] at e;cases e
    have d':Data.seq vs.toArray _=Data.dict es ep:=d
    cases d'
  have nsK:∀ {b:Addr} {m:Str→Option Value},s₁.heap.Ns b m→(hidT s₁.heap H).Ns b m:=fun {b m} ⟨o,es,ep,e,d,r⟩=>⟨o,es,ep,base_of e (noA e d),d,r⟩
  have hKb:K.In (hidT s₁.heap H):=fun b o e=>base_of (KX b o e) (by
   cases q:H b with
   | none=>rfl
   | some u =>
    have e':b=a:=hA b (by rw [q];simp)
    subst e'
    rw [hK (by rw [q];simp)] at e;cases e)
  have hM:Mod K mg (hidT s₁.heap H):=⟨hKb,nsK hns,⟨mb,nsK hb,hbb⟩,let ⟨mc,h1,h2⟩:=hlim; ⟨mc,nsK h1,h2⟩⟩
  have e0:Env0 P w K mg (hidT s₁.heap H) callerA [] s₁ H:=⟨rfl,hM,fun b o e=>zsv e,Nat.le_of_eq (zpM _ _),trivial,fun b hb=>absurd (show b ∈ ([] : List Addr) from hb) (by simp),hok, .of_eq hg⟩
  refine codeAny_mono ((F _ hKb (nsK hns)).run callerA [] s₁ H ⟨[.ref a],[]⟩ [.ref a] [.ref a] _ _ hr e0 (hbind s₁ (.ref a)) (.cons rfl .nil) (hsp H hO hS)) fun r s' h=>?_
  cases r with
  | error e=>exact (hCX H e s' h).elim
  | ok fl =>
   cases fl with
   | next=>exact False.elim h
   | brk=>exact False.elim h
   | cont=>exact False.elim h
   | ret u =>
    obtain ⟨v,H',os,bare,un,hok',r',q⟩:=h
    have q':v = .bl true:=q
    subst q'
    obtain rfl:u=Value.bool true:=r'
    refine ⟨rfl,OldK.of_keep fun b o e=>?_,os,bare⟩
    cases q:H b with
    | none=>exact un.keep b o e q (by intro z;exact absurd (show b ∈ ([] : List Addr) from z) (by simp)) (by simp)
    | some u =>
     rcases hO b with z | ⟨ob,xs,z⟩
     ·rw [q] at z;cases z
     ·have z2:=un.frzs b ob _ z
      obtain ⟨e1,_⟩:=hok b _ z
      obtain ⟨e2,_⟩:=hok' b _ z2
      rw [e] at e1;cases e1
      exact e2
 cases hk:K.lookup a with
 | some o =>
  have e:=KX a o hk
  rw [ha] at e
  cases e
  refine core (fun _=>none) (fun _ => .inl rfl) (.inr ⟨_,vs.toArray,_,hk,rfl,rfl,rfl,by rw [List.size_toArray,lenV];exact hl,by simpa using rv⟩) (fun b u z=>by have z':(none:Option HO)=some u:=z;cases z') (fun b z=>absurd rfl z) fun z=>absurd rfl z
 | none =>
  refine core (fun b=>if b=a then some (.frz { cls := .type "list",data := .seq vs.toArray } (.lst (ns.map V.int))) else none) (fun b=>?_) (.inl (.inr ⟨{ cls := .type "list",data := .seq vs.toArray },if_pos rfl⟩)) (fun b u z=>?_) (fun b z=>?_) fun _=>hk
  ·by_cases hb:b=a
   ·exact .inr ⟨_,_,if_pos hb⟩
   ·exact .inl (if_neg hb)
  ·by_cases hb:b=a
   ·have z':=(if_pos hb).symm.trans z
    cases z'
    subst hb
    exact ⟨ha,by rw [List.length_map];exact hl,vs,_,rv,ha⟩
   ·have z':=(if_neg hb).symm.trans z
    cases z'
  ·by_cases hb:b=a
   ·exact hb
   ·exact absurd (if_neg hb) z
end L2
namespace L2
open PySem PySem.Spec PyProof.Rows
theorem zt0 {l:PySem.W.OpenLaw} {n k:Nat} {q:Program} {loose:List Str} {XP:(Str→Option Value)→Heap→Prop} {YP:World→Heap→Prop} {d:DefRec} {K:Params→PySem.W.Frag} {CX:World→CXT} {sp:World→Sp} {x:Str}
  (hn:l.most=some n) (hn2:n ≤ sizeLine) (hdf:d.params.defaults=[]) (hr:Room k callerA)
  (hY:∀ (w:World) (h:Heap),YP w h→(K w.params).In h)
  (F:∀ (w:World) (mg:Str→Option Value) (fa:Addr) (h:Heap),(K w.params).In h→h.Ns mainGlobals mg→mg d.name=some (.ref fa) →
   ∃ fd:FuncData,(∀ (s:Shared) (u:Value),BindsTo s fd ⟨[u],[]⟩ [(x,u)]) ∧
    ∀ base:Heap,(K w.params).In base→base.Ns mainGlobals mg→FnOk l.prog w (K w.params) mg base (CX w) k fa fd [x] (sp w))
  (hsp:∀ (w:World) (H:Hp) (a:Addr) (ns:List Int),ns.length ≤ n→Only H→SqL (K w.params) H a (ns.map V.int)→sp w [.ref a] H (fun v _=>v = .bl true) fun _ _ _=>False)
  (hCX:∀ (w:World) (H:Hp) (s:Shared) (e:Value) (s':Shared),CX w [] H s (fun _ _ _=>False) e s'→False) :
  PySem.W.WalkO q loose XP YP l.row.toRowW d [] (fun f vs=>PySem.call f vs):=by
 refine Att.zmL hn hdf fun w s₀ s₁ mg mb fa o pm cd doc a vs ns G Y ho hd hcd hmg hobj hints hlen hg=>?_
 have KX:=hY w _ Y
 obtain ⟨fd,hb,hF⟩:=F w mg fa _ KX G.T.g hmg
 exact zqX KX G.T.g G.T.b G.T.builtins G.T.nolimit hg hobj hints (Nat.le_trans hlen hn2) hr hF hb (fun H hO hS=>hsp w H a ns hlen hO hS) fun H e s'=>hCX w H s₁ e s'
end L2
namespace L2
open PySem PySem.Spec PyProof.Rows
def inClass (s:Stmt) (j:Nat):Stmt:=match s with
 | .ClassDef _ _ _ body _ _ _ _ _ _ _=>body.getD j (.Pass ⟨0,0,0,0⟩)
 | _ => .Pass ⟨0,0,0,0⟩
def zax (s:Stmt):Arguments:=match s with
 | .FunctionDef _ a _ _ _ _ _ _ _ _=>a
 | _=>{ posonlyargs:=[],args:=[],vararg:=none,kwonlyargs:=[],kw_defaults:=[],kwarg:=none,defaults:=[] }
def zap (s:Stmt):List Stmt:=match s with
 | .FunctionDef _ _ b _ _ _ _ _ _ _=>b
 | _=>[]
def zae (s:Stmt):Scope:=match s with
 | .FunctionDef _ _ _ _ _ _ sc _ _ _=>sc
 | _=>{ kind := .function,names:=[],isGenerator:=false,isCoroutine:=false }
abbrev CX0:CXT:=fun _ _ _ _ _ _=>False
abbrev E0:XK:=fun _ _ _=>False
theorem zwO {X:Cx}:Passes CX0 X E0:=fun _ _ _ _ _ _ _ h=>h.elim
structure Fun (K:PySem.W.Frag) (x qual:Str) (st:Stmt) (f:Addr) (fd:FuncData):Prop where
 ex:∃ (oc:Value) (od:Option Addr) (kV doc pm:Value) (an:Option Addr) (cdv ct:Value) (osl:Array (Option Value)),
  fd=PySem.W.fnOf x qual (zax st) (zap st) (zae st) .none kV doc pm an cdv ct∧K.lookup f=some ⟨oc,od, .func fd,osl⟩∧PySem.W.codeIn K cdv qual=true
 kp:PySem.W.keepIn K (.ref f)=true
section
variable {P:Program} {w:World} {K:PySem.W.Frag} {mg:Str→Option Value} {base:Heap}
theorem Fun.ok {x qual:Str} {st:Stmt} {f:Addr} {fd:FuncData} {N ps:List Str} {k:Nat} {sp:Sp} (F:Fun K x qual st f fd) (S:zaz N ps (zae st)) (len:∀ vs H Q E,sp vs H Q E→vs.length=ps.length)
  (hbody:∀ (cdv:Value) (A:Around) (outer:List Env) (s:Shared) (H:Hp) (vs:List V) (Q:VK) (E:XK),Room k (A.deeper (envOfC qual (zae st) s.heap.objs.size f cdv))→sp vs H Q E →
   ∃ t,PSs (cxOf CX0 P w K mg base N qual (zae st) f cdv A outer s H E).nox (zap st) t∧t { nx:=fun _ H'=>Q .non H',rt:=Q } (start N vs) H):FnOk P w K mg base CX0 (k + 1) f fd ps sp:=by
 obtain ⟨oc,od,kV,doc,pm,an,cdv,ct,osl,rfl,lk,hcd⟩:=F.ex
 refine ztS lk hcd S len fun A outer s H vs Q E hr hsp=>?_
 obtain ⟨t,h,q⟩:=hbody cdv A outer s H vs Q E hr hsp
 exact ⟨t,h.nox,q⟩
theorem Fun.binds {x qual:Str} {st:Stmt} {f:Addr} {fd:FuncData} {ps:List Str} (F:Fun K x qual st f fd)
  (h:∀ (kV doc pm:Value) (an:Option Addr) (cdv ct:Value) (us:List Value),us.length=ps.length→bindArgs (PySem.W.fnOf x qual (zax st) (zap st) (zae st) .none kV doc pm an cdv ct) ⟨us,[]⟩ = pure (ps.zip us)):Binds K fd ps []:=by
 obtain ⟨oc,od,kV,doc,pm,an,cdv,ct,osl,rfl,lk,hcd⟩:=F.ex
 exact .all (h kV doc pm an cdv ct)
theorem zlX {x qual:Str} {st:Stmt} {f:Addr} {oc:Value} {od an:Option Addr} {osl:Array (Option Value)} {kV doc pm cdv ct:Value} (l:K.lookup f=some ⟨oc,od, .func (PySem.W.fnOf x qual (zax st) (zap st) (zae st) .none kV doc pm an cdv ct),osl⟩)
  (c:PySem.W.codeIn K cdv qual=true) (k:PySem.W.keepIn K (.ref f)=true):Fun K x qual st f (PySem.W.fnOf x qual (zax st) (zap st) (zae st) .none kV doc pm an cdv ct):=⟨⟨oc,od,kV,doc,pm,an,cdv,ct,osl,rfl,l,c⟩,k⟩
end
section
variable {X:Cx}
end
def Same (H H':Hp):Prop:=∀ b o,H b=some o→H' b=some o
theorem Same.refl (H:Hp):Same H H:=fun _ _ h=>h
theorem Same.trans {H H1 H2:Hp} (a:Same H H1) (b:Same H1 H2):Same H H2:=fun c o h=>b c o (a c o h)
theorem Same.free {H H':Hp} (e:Same H H') {l:Addr} (h:H' l=Option.none):H l=Option.none:=by
 cases q:H l with
 | none=>rfl
 | some o =>
  rw [e l o q] at h
  cases h
theorem Same.seq {K:PySem.W.Frag} {H H':Hp} {a:Addr} {xs:List V} (e:Same H H') (h:SqL K H a xs):SqL K H' a xs:=by
 rcases h with (h | ⟨o,h⟩) | h
 ·exact .inl (.inl (e _ _ h))
 ·exact .inl (.inr ⟨o,e _ _ h⟩)
 ·exact .inr h
section
variable {κ:Type} [DecidableEq κ]
end
end L2
namespace L2
open PySem
theorem zmi (env:Env):∀ (names:List (Str × NameKind)) (cs:List (Str × Addr)),(∀ y ∈ names,y.2 = .free→∃ c,env.cells.lookup y.1=some c) →
  ∃ cl,(forIn names cs (fun (x:Str × NameKind) (cs:List (Str × Addr))=>(match x with | (name,kind)=>if (kind == NameKind.free)=true then (do let c ← cellOf env name;pure (ForInStep.yield ((name,c) :: cs))) else pure (ForInStep.yield cs))):Sem (List (Str × Addr)))=pure cl ∧
   (∀ x c,cl.lookup x=some c→cs.lookup x=some c∨env.cells.lookup x=some c)∧(∀ y ∈ names,y.2 = .free→∃ c,cl.lookup y.1=some c)∧(∀ x c,cs.lookup x=some c→∃ c',cl.lookup x=some c')
 | [],cs,_=>⟨cs,rfl,fun _ _ h => .inl h,fun _ h=>(nomatch h),fun _ c h=>⟨c,h⟩⟩
 | (n,k) :: r,cs,h=>by
  by_cases hk:k = .free
  ·subst hk
   obtain ⟨c,hc⟩:=h (n, .free) (List.mem_cons_self ..) rfl
   obtain ⟨cl,e,h1,h2,h3⟩:=zmi env r ((n,c) :: cs) fun y hy=>h y (List.mem_cons_of_mem _ hy)
   refine ⟨cl,?_,fun x d hd=>?_,fun y hy hf=>?_,fun x d hd=>?_⟩
   ·rw [List.forIn_cons]
    simp only [beq_self_eq_true,if_true,cellOf,hc,pure_bind]
    exact e
   ·rcases h1 x d hd with q | q
    ·rw [List.lookup_cons] at q
     split at q
     ·rename_i hx
      have hx':x=n:=by simpa using hx
      subst hx'
      exact .inr (hc.trans q)
     ·exact .inl q
    ·exact .inr q
   ·rcases List.mem_cons.mp hy with e' | e'
    ·subst e'
     exact h3 n c (by simp)
    ·exact h2 y e' hf
   ·by_cases hx:x=n
    ·subst hx
     exact h3 x c (by simp)
    ·have hb:(x == n)=false:=by simpa using hx
     exact h3 x d (by rw [List.lookup_cons,hb];exact hd)
  ·obtain ⟨cl,e,h1,h2,h3⟩:=zmi env r cs fun y hy=>h y (List.mem_cons_of_mem _ hy)
   have hb:(k == NameKind.free)=false:=by simpa using hk
   refine ⟨cl,?_,h1,fun y hy hf=>?_,h3⟩
   ·rw [List.forIn_cons]
    simp only [hb,Bool.false_eq_true,if_false,pure_bind]
    exact e
   ·rcases List.mem_cons.mp hy with e' | e'
    ·subst e';exact absurd hf hk
    ·exact h2 y e' hf
theorem zkq {scope:Scope} {env:Env} (h:∀ y ∈ scope.names,y.2 = .free→∃ c,env.cells.lookup y.1=some c) :
  ∃ cl,closureFor scope env=pure cl∧(∀ x c,cl.lookup x=some c→env.cells.lookup x=some c)∧∀ y ∈ scope.names,y.2 = .free→∃ c,cl.lookup y.1=some c:=by
 obtain ⟨cl,e,h1,h2,_⟩:=zmi env scope.names [] h
 refine ⟨cl,?_,fun x c hc=>(h1 x c hc).resolve_left (by simp),h2⟩
 unfold closureFor
 refine Eq.trans (congrArg (fun m=>m >>= fun cs=>pure cs) e) ?_
 rfl
section
variable {prog:Program} {w:World} {A:Around} {E:Value→Shared→Prop} {s:Shared}
end
end L2
namespace L2
open PySem PySem.Spec PyProof.Rows
section
variable {prog:Program} {w:World} {A:Around} {R:Result→Shared→Prop} {s:Shared}
theorem zlJ {elt target iter:Expr} {ifs:List Expr} {scope:Scope} {pos:Pos} {it acc:Value} {env:Env} (I:Nat→Shared→Prop)
  (turn:∀ n s,I n s→wpAny (model prog w) A (pyNext it) (fun r s₁=>match r with
   | none=>R (.ok .next) s₁
   | some v=>wpAny (model prog w) A (letOwnedTupleGo target it v) (fun _ s₁'=>wpAny (model prog w) A (assign target env v) (fun _ s₂ =>
     wpAny (model prog w) A (forIn ifs true fun c r=>if r=true then do let ok ← isTrue c env (eval c env);pure (ForInStep.yield ok) else pure (ForInStep.yield r)) (fun ok s₃ =>
      if ok=true then wpAny (model prog w) A (eval elt env) (fun x s₄ =>
       wpAny (model prog w) A (call (.builtin "list.append") [acc,x]) (fun _ s₅=>∃ m,m < n∧I m s₅) (fun _ _=>False) s₄) (fun _ _=>False) s₃
      else ∃ m,m < n∧I m s₃) (fun _ _=>False) s₂) (fun _ _=>False) s₁') (fun _ _=>False) s₁) (fun _ _=>False) s)
  (n:Nat) (h:I n s) :
  codeAny (model prog w) A (.compLoop (.ListComp elt [⟨target,iter,ifs,0⟩] scope pos) 0 it acc env) R s:=by
 refine codeAny_loop rfl I (fun n s hI=>?_) n h
 show wpAny _ A ((compTurn (.ListComp elt [⟨target,iter,ifs,0⟩] scope pos) 0 it acc env).onRaise (fun x=>do noteFrame x env;theTreesLotGoes x)) _ _ s
 refine wpAny_noted ?_
 rw [compTurn_list]
 refine wpAny_bind (wpAny_standAt (wpAny_bind (wpAny_mono (turn n s hI) (fun r s₁ h₁=>?_) fun _ _ h'=>h'.elim)))
 cases r with
 | none=>exact wpAny_pure h₁
 | some v =>
  refine wpAny_bind (wpAny_mono h₁ (fun _ s₁' h₁'=>?_) fun _ _ h'=>h'.elim)
  refine wpAny_bind (wpAny_mono h₁' (fun _ s₂ h₂=>wpAny_bind (wpAny_mono h₂ (fun ok s₃ h₃=>?_) fun _ _ h'=>h'.elim)) fun _ _ h'=>h'.elim)
  cases ok with
  | false=>exact wpAny_pure ⟨rfl,h₃⟩
  | true =>
   exact wpAny_bind (wpAny_bind (wpAny_mono h₃ (fun x s₄ h₄=>wpAny_bind (wpAny_mono h₄ (fun _ s₅ h₅=>wpAny_pure (wpAny_pure ⟨rfl,h₅⟩)) fun _ _ h'=>h'.elim)) fun _ _ h'=>h'.elim))
end
def PIf (X:Cx) (ifs:List Expr) (t:TT):Prop :=
 ∀ (pins:List (Addr × Obj)) (s:Shared) (σ:St) (H:Hp) (Q:Bool→Hp→Prop),Inv X pins σ H s→t σ H Q →
  wpAny (model X.prog X.w) X.A (forIn ifs true fun c r=>if r=true then do let ok ← isTrue c X.env (eval c X.env);pure (ForInStep.yield ok) else pure (ForInStep.yield r)) (TP X pins σ Q) X.xe s
def tYes:TT:=fun _ H Q=>Q true H
theorem zth {X:Cx}:PIf X [] tYes:=fun _ _ _ H _ I h=>wpAny_tests_nil ⟨H,I,h⟩
theorem ztf {X:Cx} {c:Expr} {t:TT} (h:PT X c t):PIf X [c] t:=fun pins s σ H Q I q=>wpAny_tests_one (h pins s σ H Q I q)
def lcCx (X:Cx) (scope:Scope) (ls:List Str) (js:List Nat) (cl:List (Str × Addr)) (C:Addr) (s:Shared) (H:Hp) (fp:List Addr):Cx :=
 { X with N:=ls ++ js.map (fun j=>X.N.getD j Str.empty),s₀:=s,H₀:=H,env:=compEnvC scope cl C X.env,outer:=X.stack,ex:=fp,fn:=fun _=>false,xe:=fun _ _=>False }
def lcSt (ls:List Str) (js:List Nat) (σ:St):St:=ls.map (fun _=>none) ++ js.map (fun j=>(σ[j]?).join)
def gk (env:Env) (n:Str) (k:NameKind):NameKind:=if (k == NameKind.free && env.scope.kind == .function && env.kindOf n == some .cell)=true then .cell else k
theorem znA (env:Env) (names:List (Str × NameKind)):(names.map fun (n,k)=>if (k == NameKind.free && env.scope.kind == .function && env.kindOf n == some .cell) then (n,NameKind.cell) else (n,k))=names.map fun p=>(p.1,gk env p.1 p.2):=by
 refine List.map_congr_left fun p _=>?_
 obtain ⟨n,k⟩:=p
 show (if (k == NameKind.free && env.scope.kind == .function && env.kindOf n == some .cell)=true then (n,NameKind.cell) else (n,k))=(n,gk env n k)
 unfold gk
 split <;> rfl
theorem zhU (env:Env) (x:Str):∀ names:List (Str × NameKind),(names.map fun p=>(p.1,gk env p.1 p.2)).lookup x=(names.lookup x).map (gk env x)
 | []=>rfl
 | (n,k) :: r=>by
  rw [List.map_cons]
  cases hx:x == n with
  | true =>
   have e:x=n:=by simpa using hx
   subst e
   rw [List.lookup_cons,List.lookup_cons]
   simp
  | false =>
   rw [List.lookup_cons,List.lookup_cons]
   simp only [hx]
   exact zhU env x r
theorem lookup_mem {x:Str} {k:NameKind}:∀ {names:List (Str × NameKind)},names.lookup x=some k→(x,k) ∈ names
 | [],h=>by simp at h
 | (n,k') :: r,h=>by
  rw [List.lookup_cons] at h
  cases hx:x == n with
  | true =>
   have e:x=n:=by simpa using hx
   subst e
   simp only [beq_self_eq_true] at h
   cases h
   exact List.mem_cons_self ..
  | false =>
   simp only [hx] at h
   exact List.mem_cons_of_mem _ (lookup_mem h)
theorem zcF {env:Env} {names:List (Str × NameKind)} {x:Str} (h:names.lookup x=some .free) :
  (names.map fun (n,k)=>if (k == NameKind.free && env.scope.kind == .function && env.kindOf n == some .cell) then (n,NameKind.cell) else (n,k)).lookup x=some .cell ∨
  (names.map fun (n,k)=>if (k == NameKind.free && env.scope.kind == .function && env.kindOf n == some .cell) then (n,NameKind.cell) else (n,k)).lookup x=some .free:=by
 rw [znA,zhU,h]
 show some (gk env x .free)=some .cell∨some (gk env x .free)=some .free
 unfold gk
 split
 ·exact .inl rfl
 ·exact .inr rfl
theorem zfP {env:Env} {names:List (Str × NameKind)} {x:Str} (hc:∀ y ∈ names,y.2 ≠ .cell)
  (h:(names.map fun (n,k)=>if (k == NameKind.free && env.scope.kind == .function && env.kindOf n == some .cell) then (n,NameKind.cell) else (n,k)).lookup x=some .cell ∨
   (names.map fun (n,k)=>if (k == NameKind.free && env.scope.kind == .function && env.kindOf n == some .cell) then (n,NameKind.cell) else (n,k)).lookup x=some .free):(x,NameKind.free) ∈ names:=by
 rw [znA,zhU] at h
 cases e:names.lookup x with
 | none=>rw [e] at h;rcases h with h | h <;> cases h
 | some k =>
  have hm:=lookup_mem e
  by_cases hk:k = .free
  ·rw [hk] at hm;exact hm
  ·rw [e] at h
   have hg:gk env x k=k:=by
    unfold gk
    have hb:(k == NameKind.free)=false:=by simpa using hk
    rw [hb]
    rfl
   have h':gk env x k = .cell∨gk env x k = .free:=h.imp (fun z=>Option.some.inj z) fun z=>Option.some.inj z
   rw [hg] at h'
   rcases h' with z | z
   ·exact absurd z (hc _ hm)
   ·exact absurd z hk
structure LcOk (X:Cx) (scope:Scope) (ls:List Str) (js:List Nat):Prop where
 kind:scope.kind = .function
 cell:∀ y ∈ scope.names,y.2 ≠ .cell
 names:∀ y ∈ scope.names,y.2 = .local→scope.names.lookup y.1=some .local
 free:∀ y ∈ scope.names,y.2 = .free→X.env.kindOf y.1=some .cell∨X.env.kindOf y.1=some .free
 cap:∀ j ∈ js,∃ x,X.N[j]? = some x∧scope.names.lookup x=some .free
section
variable {X:Cx} {pins:List (Addr × Obj)} {σ:St} {H:Hp} {s:Shared}
theorem zsH {scope:Scope} {ls:List Str} {js:List Nat} {cl:List (Str × Addr)} {C:Addr} {fp:List Addr} (L:LcOk X scope ls js) (I:Inv X pins σ H s)
  (h1:∀ x c,cl.lookup x=some c→X.env.cells.lookup x=some c) (h2:∀ y ∈ scope.names,y.2 = .free→∃ c,cl.lookup y.1=some c)
  {s':Shared} {H':Hp} (hC:s'.heap.objs.size ≤ C) (bs:∀ b o,X.base.get? b=some o→s'.heap.get? b=some o∧H' b=none) (bsz:X.base.objs.size ≤ s'.heap.objs.size)
  (funs:s'.heap.FunFrames X.base X.stack) (frf:∀ b ∈ frs X.stack,H' b=none)
  (exf:∀ b ∈ fp,b ≠ C∧∀ x c,X.env.cells.lookup x=some c→c ≠ b) (noex:∀ b o,X.base.get? b=some o→b ∉ fp) (exfs:∀ b ∈ fp,b ∉ frs X.stack) :
  (lcCx X scope ls js cl C s' H' fp).Ok where
 mod:=I.ok.mod
 kind:=L.kind
 glob:=I.ok.glob
 blt:=I.ok.blt
 above:=hC
 inj:=fun x y c a b=>I.ok.inj x y c (h1 x c a) (h1 y c b)
 has:=fun x hx=>h2 (x, .free) (zfP (env:=X.env) L.cell hx) rfl
 cab:=fun x c z=>by cases z
 hd:=I.ok.hd
 frames:=I.ok.frames
 stk := .inl rfl
 exf:=fun b hb=>⟨(exf b hb).1,fun x c e=>(exf b hb).2 x c (h1 x c e)⟩
 bs:=bs
 bsz:=bsz
 noex:=noex
 exfs:=exfs
 funs:=funs
 frf:=frf
theorem zrT {ls:List Str} {js:List Nat} {i:Nat} {v:V} (h:(lcSt ls js σ)[i]? = some (some v)):∃ k j,i=ls.length + k∧js[k]? = some j∧σ[j]? = some (some v):=by
 unfold lcSt at h
 by_cases hi:i < ls.length
 ·rw [List.getElem?_append_left (by simpa using hi),List.getElem?_map] at h
  cases e:ls[i]? with
  | none=>rw [e] at h;cases h
  | some y=>rw [e] at h;cases h
 ·rw [List.getElem?_append_right (by simpa using Nat.le_of_not_lt hi),List.getElem?_map,List.length_map] at h
  cases e:js[i - ls.length]? with
  | none=>rw [e] at h;cases h
  | some j =>
   rw [e] at h
   refine ⟨i - ls.length,j,by omega,e,?_⟩
   have h':(σ[j]?).join=some v:=Option.some.inj h
   cases q:σ[j]? with
   | none=>rw [q] at h';cases h'
   | some o =>
    rw [q] at h'
    exact congrArg some h'
def LcR (ls:List Str) (js:List Nat) (g:TG) (tc:TT) (te:TE) (σ:St) (Q:VK) (J:It) (H1:Hp):Prop:=∀ D,H1 D=none →
 ∃ W:Nat→Nat→St→Hp→Prop,(∃ m,W 0 m (lcSt ls js σ) (upd H1 D (.lst [])))∧∀ i m σ' H',W i m σ' H' →
  (J.stop i H'∧Q (.ref D) H')∨(J.go i H'∧∃ N:St→Hp→Prop,(∀ σ2 H2,N σ2 H2→∃ m',m' < m∧W (i + 1) m' σ2 H2) ∧
   ∀ x H2,J.yld i H' x H2→g x σ' H2 fun σ3 H3=>tc σ3 H3 fun c H4=>if c=true then te σ3 H4 fun y H5=>∃ ys,H5 D=some (.lst ys)∧ys.length < sizeLine∧N σ3 (upd H5 D (.lst (ys ++ [y]))) else N σ3 H4)
def tLC (ls:List Str) (js:List Nat) (wi:TI) (g:TG) (tc:TT) (te:TE):TE:=fun σ H Q=>wi σ H (LcR ls js g tc te σ Q)
theorem zwx {elt tg iter:Expr} {ifs:List Expr} {scope:Scope} {pos:Pos} {ls:List Str} {js:List Nat} {wi:TI} {g:TG} {tc:TT} {te:TE} (hc:X.calm=true) (L:LcOk X scope ls js) (hi:PI X tg iter wi)
  (hb:∀ cl C s H fp,PG (lcCx X scope ls js cl C s H fp) tg g∧PIf (lcCx X scope ls js cl C s H fp) ifs tc∧PE (lcCx X scope ls js cl C s H fp) elt te)
  (hs:∀ x,foldedSetIterable iter X.env x=pure x:=by intro _;rfl):PE X (.ListComp elt [⟨tg,iter,ifs,0⟩] scope pos) (tLC ls js wi g tc te):=by
 intro pins s σ H Q I h
 obtain ⟨cl,hcl,hk1,hk2⟩:=zkq (scope:=scope) (env:=X.env) fun y hy hf=>I.ok.has y.1 (L.free y hy hf)
 rw [eval_ListComp]
 refine wpAny_comprehension_free (use:=none) rfl hs hcl L.kind L.names (thn (hi pins s σ H _ I h) fun v s1 h1=>thn h1 fun itv s2 h2=>?_)
 obtain ⟨it,fp,tn,J,H1,e,I2,T,st2,f2,h2⟩:=h2
 subst e
 refine wpAny_newObj_type (wpAny_newFunctionEnv L.cell (by intro y hy;simp at hy) (fun h₁ hns₁ hsb₁=>?_) L.kind)
 dsimp only at hns₁ hsb₁ ⊢
 generalize hH2:s2.heap.push { cls := .type "list",dict:=none,data := .seq ([] : List Value).toArray }=G2 at hns₁ hsb₁ ⊢
 have hCz:G2.objs.size=s2.heap.objs.size + 1:=by rw [← hH2,Heap.size_push]
 have hD0:H1 s2.heap.objs.size=none:=I2.hok.fresh (Nat.le_refl _)
 have hC0:H1 G2.objs.size=none:=I2.hok.fresh (by omega)
 have hDC:s2.heap.objs.size ≠ G2.objs.size:=by omega
 have hG2D:G2.get? s2.heap.objs.size=some { cls := .type "list",dict:=none,data := .seq ([] : List Value).toArray }:=by rw [← hH2];exact Heap.get?_push_size _ rfl
 have keepG:∀ b o,s2.heap.get? b=some o→G2.get? b=some o:=fun b o e=>by rw [← hH2];exact Heap.get?_push_of_some _ e
 have I3:Inv X pins σ (upd H1 s2.heap.objs.size (.lst [])) { s2 with heap:=G2,toks:=s2.toks } :=
  I2.laid (t':=s2.toks) keepG (Nat.le_refl _) (show zc1 X.prog X.w _ G2 _ (.lst []) from ⟨by simp,[],0, .nil,hG2D⟩)
 have keep1:∀ b o,G2.get? b=some o→h₁.get? b=some o:=fun b o e=>(hsb₁.2 b (Nat.ne_of_lt (Heap.lt_size e))).trans (Heap.get?_push_of_some _ e)
 have I4:Inv X pins σ (upd H1 s2.heap.objs.size (.lst [])) { s2 with heap:=h₁,toks:=s2.toks + 0 }:=I3.kept (h':=h₁) (t':=s2.toks + 0) keep1
 generalize hT:(H1,(⟨tg,iter,ifs,0⟩ : Comprehension))=junk
 clear hT junk
 have fpsz:∀ b ∈ fp,b < s2.heap.objs.size:=fun b hb=>by
  obtain ⟨o,e,_⟩:=T.obj 0 _ st2 b hb
  exact Heap.lt_size e
 have fpD:s2.heap.objs.size ∉ fp:=fun z=>Nat.lt_irrefl _ (fpsz _ z)
 have fpC:∀ b ∈ fp,b ≠ G2.objs.size:=fun b hb=>Nat.ne_of_lt (by rw [hCz];exact Nat.lt_succ_of_lt (fpsz b hb))
 have okC:(lcCx X scope ls js cl G2.objs.size { s2 with heap:=G2 } (upd H1 s2.heap.objs.size (.lst [])) fp).Ok:=by
  refine zsH L I3 hk1 hk2 (Nat.le_refl _) I3.bs (Nat.le_trans I3.ok.bsz I3.sz) I3.stack I3.zmz (fun b hb=>⟨fpC b hb,(f2 b hb).2.2.2.2.1⟩) (fun b o e hb=>?_) (fun b hb z=>?_)
  ·rcases (f2 b hb).2.2.2.1 with q | q
   ·exact I2.ok.noex b o e q
   ·exact absurd (Nat.lt_of_lt_of_le (Heap.lt_size (I2.ok.bs b o e).1) q) (Nat.lt_irrefl _)
  ·rcases List.mem_cons.mp (I3.zjD b z) with q | q
   ·exact (f2 b hb).2.1 q
   ·exact (f2 b hb).2.2.1 q
 have IC:Inv (lcCx X scope ls js cl G2.objs.size { s2 with heap:=G2 } (upd H1 s2.heap.objs.size (.lst [])) fp) [] (lcSt ls js σ) (upd H1 s2.heap.objs.size (.lst [])) { s2 with heap:=h₁,toks:=s2.toks + 0 }:=by
  refine ⟨okC,rfl,I4.bare,Un.kept keep1,⟨_,hns₁,fun i x v e1 e2 e3=>?_⟩,fun x c e=>I4.cell x c (hk1 x c e),?_,fun x c e=>I4.freeC x c (hk1 x c e),fun p hp=>?_,I4.hok,?_⟩
  ·obtain ⟨k,j,hi',hj,hσ⟩:=zrT e2
   obtain ⟨y,hy,hyf⟩:=L.cap j (List.mem_of_getElem? hj)
   have hxy:x=y:=by
    have e1':(ls ++ js.map (fun j=>X.N.getD j Str.empty))[i]? = some x:=e1
    rw [hi',List.getElem?_append_right (Nat.le_add_right ..),Nat.add_sub_cancel_left,List.getElem?_map,hj] at e1'
    have e1'':X.N.getD j Str.empty=x:=Option.some.inj e1'
    rw [← e1'',List.getD_eq_getElem?_getD,hy]
    rfl
   subst hxy
   have hkf:X.env.kindOf x=some .cell∨X.env.kindOf x=some .free:=by
    have hm:(x,NameKind.free) ∈ scope.names:=by
     have q:=zfP (env:=X.env) L.cell (zcF (env:=X.env) hyf)
     exact q
    exact L.free _ hm rfl
   obtain ⟨m,hn,hl⟩:=I4.loc
   obtain ⟨u,r,l⟩:=hl j x v hy hσ (hkf.elim (fun z => .inr (.inl z)) fun z => .inr (.inr z))
   refine ⟨u,r, .inr ⟨zcF (env:=X.env) hyf,?_⟩⟩
   rcases l with ⟨kl,_⟩ | ⟨_,c,hc',z⟩
   ·rcases hkf with q | q
    ·rw [q] at kl;cases kl
    ·rw [q] at kl;cases kl
   ·have hm:(x,NameKind.free) ∈ scope.names:=zfP (env:=X.env) L.cell (zcF (env:=X.env) hyf)
    obtain ⟨c',hc''⟩:=hk2 _ hm rfl
    have:=hk1 _ _ hc''
    rw [hc'] at this
    cases this
    exact ⟨c,hc'',z⟩
  ·show upd H1 s2.heap.objs.size (.lst []) G2.objs.size=none
   rw [zat (Ne.symm hDC)]
   exact hC0
  ·have hp':p ∈ X.pn:=by simpa [lcCx] using hp
   obtain ⟨e,n,ne,nf,d⟩:=I4.pin p (List.mem_append_left _ hp')
   obtain ⟨e3,_⟩:=I3.pin p (List.mem_append_left _ hp')
   refine ⟨e,n,?_,fun z=>?_,d⟩
   ·exact Nat.ne_of_lt (Heap.lt_size e3)
   ·rcases List.mem_cons.mp (I3.zjD p.1 z) with q | q
    ·exact ne q
    ·exact nf q
  ·simp [lcSt,lcCx]
 obtain ⟨hbG,hbI,hbE⟩:=hb cl G2.objs.size { s2 with heap:=G2 } (upd H1 s2.heap.objs.size (.lst [])) fp
 obtain ⟨W,⟨m0,w0⟩,turn⟩:=h2 s2.heap.objs.size hD0
 have st0:tn 0 h₁:=T.keep _ _ _ st2 fun b hb o e=>keep1 b o (keepG b o e)
 have frz:∀ {H':Hp},(∀ b ∈ fp,H' b=none)→∀ b ∈ fp,FpOk (lcCx X scope ls js cl G2.objs.size { s2 with heap:=G2 } (upd H1 s2.heap.objs.size (.lst [])) fp) [] H' b:=fun hn b hb=>by
  refine ⟨hn b hb,fpC b hb,fun z=>?_, .inl hb,fun x c e=>(f2 b hb).2.2.2.2.1 x c (hk1 x c e),fun p hp=>?_⟩
  ·rcases List.mem_cons.mp (I3.zjD b z) with q | q
   ·exact (f2 b hb).2.1 q
   ·exact (f2 b hb).2.2.1 q
  ·have hp':p ∈ X.pn:=by simpa [lcCx] using hp
   exact (f2 b hb).2.2.2.2.2 p (List.mem_append_left _ hp')
 have fr0:∀ b ∈ fp,(upd H1 s2.heap.objs.size (.lst [])) b=none:=fun b hb=>by
  rw [zat (show b ≠ s2.heap.objs.size from Nat.ne_of_lt (fpsz b hb))]
  exact (f2 b hb).1
 have loop:∀ s4:Shared,s4 = { s2 with heap:=h₁,toks:=s2.toks + 0 } →
   codeAny (model X.prog X.w) X.A (.compLoop (.ListComp elt [⟨tg,iter,ifs,0⟩] scope pos) 0 (.ref it) (.ref s2.heap.objs.size) (compEnvC scope cl G2.objs.size X.env))
    (compPost (model X.prog X.w) X.A X.xe none (EP X pins σ Q) (.ref s2.heap.objs.size) G2.objs.size) s4:=by
  rintro s4 rfl
  refine zlJ (fun n s'=>∃ i σ' H',Inv (lcCx X scope ls js cl G2.objs.size { s2 with heap:=G2 } (upd H1 s2.heap.objs.size (.lst [])) fp) [] σ' H' s'∧tn i s'.heap∧(∀ b ∈ fp,H' b=none)∧W i n σ' H') ?_ m0 ⟨0,_,_,IC,st0,fr0,w0⟩
  rintro n s5 ⟨i,σ5,H5,I5,st5,fr5,w5⟩
  rcases turn i n σ5 H5 w5 with ⟨stop,qn⟩ | ⟨go,N,hN,step⟩
  ·refine thn (T.done (lcCx X scope ls js cl G2.objs.size { s2 with heap:=G2 } (upd H1 s2.heap.objs.size (.lst [])) fp) rfl rfl rfl hc i [] s5 σ5 H5 _ I5 (frz fr5) st5 stop) fun r s6 ⟨hr,I6⟩=>?_
   subst hr
   obtain ⟨m6,hn6,_⟩:=I6.loc
   refine ⟨m6,hn6,fun h' hsb=>⟨.ref s2.heap.objs.size,H5,?_,rfl,qn⟩⟩
   have un1:Un (frs X.stack) fp (upd H1 s2.heap.objs.size (.lst [])) H5 G2 s6.heap:=I6.base
   have un0:Un (frs X.stack) fp H1 (upd H1 s2.heap.objs.size (.lst [])) s2.heap G2:=Un.laid keepG (Nat.le_refl _) hD0
   have un:=un0.trans un1
   have neC:∀ b o,s2.heap.get? b=some o→b ≠ G2.objs.size:=fun b o e=>Nat.ne_of_lt (by rw [hCz];exact Nat.lt_succ_of_lt (Heap.lt_size e))
   have un':Un (frs X.stack) fp H1 H5 s2.heap h':=⟨fun b o e n a x=>(hsb.2 b (neC b o e)).trans (un.keep b o e n a x),fun b o e n a x=>by
    obtain ⟨sl,q⟩:=un.slot b o e n a x
    exact ⟨sl,(hsb.2 b (neC b o e)).trans q⟩,un.free,fun b o e x=>by
    obtain ⟨o',q⟩:=un.there b o e x
    exact ⟨o',(hsb.2 b (neC b o e)).trans q⟩,un.tups,un.frzs,un.tbls⟩
   have hok':HOk X.prog X.w H5 h':=fun b o e=>by
    refine (I6.hok b o e).stay (fun c u hc' q=>(hsb.2 c ?_).trans q) (fun _ q=>q) fun _ _ q=>q
    have hfree:H5 G2.objs.size=none:=I6.free
    rintro rfl
    rcases hc' with z | z
    ·subst z;rw [hfree] at e;cases e
    ·rw [hfree] at z;cases z
   refine I2.zsQ (s':={ s6 with heap:=h' }) (ch:=fp) ?_ un' hok' I6.bare fun b hb=>⟨(f2 b hb).2.2.2.1,(f2 b hb).2.1,(f2 b hb).2.2.2.2.1,(f2 b hb).2.2.2.2.2⟩
   exact I6.os
  ·refine thn (T.item (lcCx X scope ls js cl G2.objs.size { s2 with heap:=G2 } (upd H1 s2.heap.objs.size (.lst [])) fp) rfl rfl rfl hc i [] s5 σ5 H5 _ I5 (frz fr5) st5 go) fun r s6 ⟨u,hr,h6⟩=>?_
   subst hr
   refine thn h6 fun _ s7 ⟨x,H7,I7,r7,y7,st7,fr7⟩=>?_
   have I7':=I7.pinned (frz fr7) (T.obj _ _ st7)
   refine thn (hbG _ s7 σ5 H7 x u _ I7' r7 (step x H7 y7)) fun _ s8 ⟨σ8,H8,I8,q8⟩=>?_
   refine thn (hbI _ s8 σ8 H8 _ I8 q8) fun ok s9 ⟨H9,I9,q9⟩=>?_
   have again:∀ {σa:St} {Ha:Hp} {sa:Shared},Inv (lcCx X scope ls js cl G2.objs.size { s2 with heap:=G2 } (upd H1 s2.heap.objs.size (.lst [])) fp) ([] ++ zlI fp s7.heap) σa Ha sa→N σa Ha →
     ∃ m,m < n∧∃ i σ' H',Inv (lcCx X scope ls js cl G2.objs.size { s2 with heap:=G2 } (upd H1 s2.heap.objs.size (.lst [])) fp) [] σ' H' sa∧tn i sa.heap∧(∀ b ∈ fp,H' b=none)∧W i m σ' H':=fun {σa Ha sa} Ia na=>by
    obtain ⟨m',hm,wa⟩:=hN σa Ha na
    refine ⟨m',hm,i + 1,σa,Ha,Ia.zio,T.keep _ _ _ st7 fun b hb o e=>(Ia.pin (b,o) (List.mem_append_right _ (List.mem_append_right _ (zge hb e)))).1,fun b hb=>?_,wa⟩
    obtain ⟨o,e,d⟩:=T.obj _ _ st7 b hb
    exact (Ia.pin (b,o) (List.mem_append_right _ (List.mem_append_right _ (zge hb e)))).2.1
   cases ok with
   | false=>exact again I9 q9
   | true =>
    refine thn (hbE _ s9 σ8 H9 _ I9 q9) fun y s10 ⟨z,H10,I10,r10,ys,hD,hlt,nn⟩=>?_
    obtain ⟨zz,its,k,r,hl,e⟩:=I10.lstM hD
    refine call_meets F.slot_list_append ⟨_,e,rfl⟩ F.entry_list_append (F.args_list_append_2 _ _) (PySem.list_append s2.heap.objs.size its.toArray k y (by rw [List.size_toArray];omega)) ⟨e,?_⟩
    refine again (I10.lset (its':=its ++ [y]) (t':=s10.toks) hD e ?_ (r.append (.cons r10 .nil)) ?_) nn
    ·simp
    ·simp;omega
 exact codeAny_compStart_list (loop _ rfl) (T.self _ 0 _ _ _ st0 (loop _ rfl))
end
end L2
namespace L2
open PySem PySem.Spec PyProof.Rows
section
variable {X:Cx}
theorem zry (hc:X.calm=true):zeR X (.builtin "sum") (fun xs H Q=>∃ (a:Addr) (ns:List Int),xs=[.ref a]∧SqL X.K H a (ns.map V.int)∧Q (.int ns.sum) H):=by
 intro pins s σ H xs us Q I r h
 obtain ⟨a,ns,rfl,hq,q⟩:=h
 obtain ⟨u,rfl,ru⟩:=vals1 r
 cases ru
 obtain ⟨its,rv,pl,hz⟩:=I.list hq
 have hi:IntsAre its ns:=intsAre_of rv
 obtain ⟨xs,hxs⟩:=hi.allInts.items
 have hl:s.heap.IsList a (intItems xs):=hxs ▸ pl.isList
 refine sum_intListG (I.ok.hd hc) hl fun h' tk t' hk=>?_
 have e:preSum (numAt xs) xs.size=ns.sum:=by
  rw [preSum_eq,List.take_of_length_le (by simp),← nums_intItems,← hxs,show its.toArray.toList=its from rfl,hi.numsOf]
 exact ⟨.int ns.sum,H,I.kept (t':=tk) hk,⟨t',by rw [e]⟩,q⟩
theorem zmp:zeR X (.builtin "isinstance") (fun xs H Q=>∃ x n t b,xs=[x, .ty n]∧TyOf X.K H x t∧PySem.W.kitOne X.K t (.type n)=some b∧Q (.bl b) H):=by
 intro pins s σ H xs us Q I r h
 obtain ⟨x,n,t,b,rfl,ty,e,q⟩:=h
 obtain ⟨u,v,rfl,rx,ry⟩:=vals2 r
 cases ry
 exact zqc I rx ty e fun tk=>⟨.bl b,H,I.tok tk,rfl,q⟩
end
inductive Dt where
 | int (i:Int) | bl (b:Bool) | str (x:Str) | non | tup (ds:List Dt) | lst (ds:List Dt)
def Den (K:PySem.W.Frag) (H:Hp):Nat→V→Dt→Prop
 | _,v, .int j=>v = .int j
 | _,v, .bl b=>v = .bl b
 | _,v, .str x=>v = .str x
 | _,v, .non=>v = .non
 | 0,_, .tup _=>False
 | 0,_, .lst _=>False
 | n + 1,v, .tup ds=>∃ a xs,v = .ref a∧SqT K H a xs∧Paired (Den K H n) xs ds
 | n + 1,v, .lst ds=>∃ a xs,v = .ref a∧SqL K H a xs∧Paired (Den K H n) xs ds
theorem Same.seqT {K:PySem.W.Frag} {H H':Hp} {a:Addr} {xs:List V} (e:Same H H') (h:SqT K H a xs):SqT K H' a xs:=by
 rcases h with (h | ⟨o,h⟩) | h
 ·exact .inl (.inl (e _ _ h))
 ·exact .inl (.inr ⟨o,e _ _ h⟩)
 ·exact .inr h
theorem Den.same {K:PySem.W.Frag} {H H':Hp} (e:Same H H'):∀ {n:Nat} {v:V} {d:Dt},Den K H n v d→Den K H' n v d:=by
 intro n
 induction n with
 | zero=>intro v d h;cases d <;> first | exact h | exact h.elim
 | succ n ih =>
  intro v d h
  cases d with
  | tup ds =>
   obtain ⟨a,xs,h1,h2,h3⟩:=h
   exact ⟨a,xs,h1,e.seqT h2,Paired.mapP h3 fun _ _ q=>ih q⟩
  | lst ds =>
   obtain ⟨a,xs,h1,h2,h3⟩:=h
   exact ⟨a,xs,h1,e.seq h2,Paired.mapP h3 fun _ _ q=>ih q⟩
  | int i=>exact h
  | bl b=>exact h
  | str x=>exact h
  | non=>exact h
theorem Paired.get {α β:Type} {F:α→β→Prop}:∀ {l₁:List α} {l₂:List β} {i:Nat} {a:α},Paired F l₁ l₂→l₁[i]? = some a→∃ b,l₂[i]? = some b∧F a b
 | _,_,_,_, .nil,e=>by simp at e
 | _,_,0,_, .cons r _,e=>by simp at e;subst e;exact ⟨_,rfl,r⟩
 | _,_,i + 1,x, .cons _ t,e=>by
  obtain ⟨u,h1,h2⟩:=Paired.get (i:=i) (a:=x) t (by simpa using e)
  exact ⟨u,by simpa using h1,h2⟩
section
variable {X:Cx} {pins:List (Addr × Obj)} {σ:St} {H:Hp} {s:Shared}
end
section
variable {X:Cx}
end
end L2
namespace L2
open PySem PySem.Spec PyProof.Rows
structure HasFn (K:PySem.W.Frag) (mg:Str→Option Value) (x:Str) (st:Stmt):Prop where
 ex:∃ f fd,mg x=some (.ref f)∧Fun K x x st f fd
theorem zaC {K:PySem.W.Frag} {h:Heap} {mg:Str→Option Value} {x:Str} {st:Stmt} {f:Addr} {oc:Value} {od an:Option Addr} {osl:Array (Option Value)} {kV doc pm cdv ct:Value} (X:K.In h) (G:h.Ns mainGlobals mg)
  (a:PySem.W.nsIn K mainGlobals x=some (some (.ref f))) (l:K.lookup f=some ⟨oc,od, .func (PySem.W.fnOf x x (zax st) (zap st) (zae st) .none kV doc pm an cdv ct),osl⟩)
  (c:PySem.W.codeIn K cdv x=true) (k:PySem.W.keepIn K (.ref f)=true):HasFn K mg x st:=⟨⟨f,_,PySem.W.mg_of X G a,zlX l c k⟩⟩
structure Def (P:Program) (w:World) (K:PySem.W.Frag) (mg:Str→Option Value) (base:Heap) (x:Str) (k:Nat) (ps:List Str) (sp:Sp):Prop where
 ex:∃ f fd,FnOk P w K mg base CX0 k f fd ps sp∧mg x=some (.ref f)∧PySem.W.keepIn K (.ref f)=true∧Binds K fd ps []
theorem zvX {X:Cx} {k:Nat} {x:Str} {ps:List Str} {sp:Sp} {e:Expr} {es:List Expr} {t:TA} {p pos:Pos} (D:Def X.prog X.w X.K X.mg X.base x k ps sp) (hr:Room k X.A) (hg:Gl X x) (ha:PA X (e :: es) t)
  (hdb:(x == ("__debug__" : Str))=false:=by decide) (he:starEach (e :: es) X.env=(false,eval e X.env) :: starEach es X.env:=by rfl) (hpl:(backTo pos (starEach es X.env)).any (·.1)=false:=by rfl) :
  PE X (.Call (.Name x p) (e :: es) [] pos) (zsR sp [] E0 t):=by
 obtain ⟨f,fd,F,hm,hk,hb⟩:=D.ex
 exact ztP F hr hg hm hk hb .nil zwO ha hdb he hpl
theorem Def.of {P:Program} {w:World} {K:PySem.W.Frag} {mg:Str→Option Value} {base:Heap} {x:Str} {st:Stmt} {N ps:List Str} {k:Nat} {sp:Sp} (h:HasFn K mg x st) (S:zaz N ps (zae st))
  (bind:∀ (kV doc pm:Value) (an:Option Addr) (cdv ct:Value) (us:List Value),us.length=ps.length→bindArgs (PySem.W.fnOf x x (zax st) (zap st) (zae st) .none kV doc pm an cdv ct) ⟨us,[]⟩ = pure (ps.zip us))
  (len:∀ vs H Q E,sp vs H Q E→vs.length=ps.length)
  (hbody:∀ (f:Addr) (cdv:Value) (A:Around) (outer:List Env) (s:Shared) (H:Hp) (vs:List V) (Q:VK) (E:XK),Room k (A.deeper (envOfC x (zae st) s.heap.objs.size f cdv))→sp vs H Q E →
   ∃ t,PSs (cxOf CX0 P w K mg base N x (zae st) f cdv A outer s H E).nox (zap st) t∧t { nx:=fun _ H'=>Q .non H',rt:=Q } (start N vs) H):Def P w K mg base x (k + 1) ps sp:=by
 obtain ⟨f,fd,hm,F⟩:=h.ex
 exact ⟨f,fd,F.ok S len (hbody f),hm,F.kp,F.binds bind⟩
theorem Same.new {H:Hp} {p:Addr} {o:HO} (h:H p=none):Same H (upd H p o):=fun b u e=>by rw [zat (zaW e h)];exact e
def Kept (l:Addr) (H H':Hp):Prop:=∀ b o,b ≠ l→H b=some o→H' b=some o
theorem Kept.upd (l:Addr) (H:Hp) (o:HO):Kept l H (upd H l o):=fun b u hb e=>by rw [zat hb];exact e
theorem Same.kept {l:Addr} {H H':Hp} (h:Same H H'):Kept l H H':=fun b o _ e=>h b o e
theorem Kept.trans {l:Addr} {H H1 H2:Hp} (a:Kept l H H1) (b:Kept l H1 H2):Kept l H H2:=fun c o hc e=>b c o hc (a c o hc e)
theorem Kept.seqT {K:PySem.W.Frag} {l:Addr} {H H':Hp} {a:Addr} {xs ys:List V} (e:Kept l H H') (hl:H l=some (.lst ys)) (h:SqT K H a xs):SqT K H' a xs:=by
 rcases h with (h | ⟨o,h⟩) | h
 ·exact .inl (.inl (e _ _ (zs6 h hl (by intro z;cases z)) h))
 ·exact .inl (.inr ⟨o,e _ _ (zs6 h hl (by intro z;cases z)) h⟩)
 ·exact .inr h
def IsTI (K:PySem.W.Frag) (H:Hp) (v:V) (ns:List Int):Prop:=∃ p,v = .ref p∧SqT K H p (ns.map V.int)
theorem IsTI.same {K:PySem.W.Frag} {H H':Hp} {v:V} {ns:List Int} (e:Same H H') (h:IsTI K H v ns):IsTI K H' v ns:=let ⟨p,a,b⟩:=h; ⟨p,a,e.seqT b⟩
theorem IsTI.kept {K:PySem.W.Frag} {l:Addr} {H H':Hp} {v:V} {ns:List Int} {ys:List V} (e:Kept l H H') (hl:H l=some (.lst ys)) (h:IsTI K H v ns):IsTI K H' v ns:=let ⟨p,a,b⟩:=h; ⟨p,a,e.seqT hl b⟩
def Rows (K:PySem.W.Frag) (H:Hp) (xs:List V) (rs:List (List Int)):Prop:=Paired (IsTI K H) xs rs
theorem Rows.same {K:PySem.W.Frag} {H H':Hp} {xs:List V} {rs:List (List Int)} (e:Same H H') (h:Rows K H xs rs):Rows K H' xs rs:=Paired.mapP h fun _ _ q=>q.same e
theorem Rows.kept {K:PySem.W.Frag} {l:Addr} {H H':Hp} {xs ys:List V} {rs:List (List Int)} (e:Kept l H H') (hl:H l=some (.lst ys)) (h:Rows K H xs rs):Rows K H' xs rs:=Paired.mapP h fun _ _ q=>q.kept e hl
end L2
namespace L2
open PySem PySem.Spec PyProof.Rows
def TbAt (h₀ h:Heap) (H:Hp) (x:Addr) (vs:Array Value):Prop :=
 ∃ T oT ts,vs[1]? = some (.ref T)∧T ≠ x∧h₀.get? T=none∧H T=none∧h.get? T=some oT∧oT.data = .fields ts∧3 < ts.size
def ExAt (h₀ h:Heap) (H:Hp) (x:Addr) (cls:Value) (dx:Option Addr) (tb:Bool):Prop :=
 h₀.get? x=none∧H x=none∧∃ oe vs,h.get? x=some oe∧oe.cls=cls∧oe.dict=dx∧oe.data = .fields vs∧1 < vs.size∧((tb=false∧vs[1]? = some .none)∨TbAt h₀ h H x vs)
theorem ExAt.any {h₀ h:Heap} {H:Hp} {x:Addr} {cls:Value} {dx:Option Addr} {tb:Bool} (e:ExAt h₀ h H x cls dx tb):ExAt h₀ h H x cls dx false:=by
 obtain ⟨a,b,oe,vs,c1,c2,c3,c4,c5,c6⟩:=e
 exact ⟨a,b,oe,vs,c1,c2,c3,c4,c5,c6.imp (fun z=>⟨rfl,z.2⟩) id⟩
structure Top1 (X:Cx):Prop where
 stk:X.stack=X.env :: X.outer
 frm:X.env.frame=some X.env.locals
 pn:X.pn=[]
theorem Top1.mem {X:Cx} (t:Top1 X) {b:Addr}:b ∈ frs X.stack↔b=X.env.locals∨b ∈ X.fs:=by
 rw [t.stk]
 unfold frs
 rw [List.filterMap_cons,t.frm]
 exact List.mem_cons
section
variable {X:Cx} {σ:St} {H:Hp} {s:Shared}
theorem Inv.recs {h':Heap} {ch:List Addr} (I:Inv X [] σ H s) (t:Top1 X) (hch:∀ b ∈ ch,X.s₀.heap.get? b=none∧H b=none∧∃ o vs,s.heap.get? b=some o∧o.data = .fields vs)
  (keep:∀ b o,b ∉ frs X.stack→b ∉ ch→s.heap.get? b=some o→h'.get? b=some o) (slot:∀ b o,b ∈ frs X.stack→s.heap.get? b=some o→∃ sl,h'.get? b=some { o with slots:=sl }) :
  Inv X [] σ H { s with heap:=h' }:=by
 have ncell:∀ c v,s.heap.IsCell c v→c ∉ ch:=fun c v ⟨o,ho,hd⟩ hc=>by
  obtain ⟨_,_,o',vs,e,d⟩:=hch c hc
  rw [ho] at e;cases e
  rw [hd] at d;cases d
 have any:∀ b o,b ∉ ch→s.heap.get? b=some o→∃ sl,h'.get? b=some { o with slots:=sl }:=fun b o hc e=>by
  by_cases hb:b ∈ frs X.stack
  ·exact slot b o hb e
  ·exact ⟨o.slots,keep b o hb hc e⟩
 have cellK:∀ c v,s.heap.IsCell c v→h'.IsCell c v:=fun c v z=>by
  obtain ⟨o,ho,hd⟩:=id z
  obtain ⟨sl,e⟩:=any c o (ncell c v z) ho
  exact ⟨_,e,hd⟩
 have old:∀ b o,X.s₀.heap.get? b=some o→b ≠ X.env.locals∧b ∉ ch:=fun b o e =>
  ⟨Nat.ne_of_lt (Nat.lt_of_lt_of_le (Heap.lt_size e) I.ok.above),fun hc=>by rw [(hch b hc).1] at e;cases e⟩
 have nfr:∀ b,b ≠ X.env.locals→b ∉ X.fs→b ∉ frs X.stack:=fun b h1 h2 z=>(t.mem.mp z).elim h1 h2
 refine ⟨I.ok,I.os,I.bare,⟨fun b o e n hb hx=>?_,fun b o e n hb hx=>?_,I.base.free,fun b o e hx=>?_,I.base.tups,I.base.frzs,I.base.tbls⟩,?_,fun x c e=>?_,I.free,I.freeC,fun p hp=>?_,fun b u e=>?_,I.len⟩
 ·exact keep b o (nfr b (old b o e).1 hb) (old b o e).2 (I.base.keep b o e n hb hx)
 ·obtain ⟨sl,e1⟩:=I.base.slot b o e n hb hx
  obtain ⟨sl',e2⟩:=any b _ (old b o e).2 e1
  exact ⟨sl',e2⟩
 ·obtain ⟨o',e1⟩:=I.base.there b o e hx
  obtain ⟨sl,e2⟩:=any b o' (old b o e).2 e1
  exact ⟨_,e2⟩
 ·obtain ⟨m,hn,hl⟩:=I.loc
  obtain ⟨o,es,ep,ho,hd,r⟩:=id hn
  have hLc:X.env.locals ∉ ch:=fun hc=>by
   obtain ⟨_,_,o',vs,e,d⟩:=hch _ hc
   rw [ho] at e;cases e
   rw [hd] at d;cases d
  obtain ⟨sl,e⟩:=any _ o hLc ho
  refine ⟨m,⟨_,es,ep,e,hd,r⟩,fun i x v e1 e2 e3=>?_⟩
  obtain ⟨u,ru,l⟩:=hl i x v e1 e2 e3
  refine ⟨u,ru,?_⟩
  rcases l with l | ⟨k,c,ec,z⟩
  ·exact .inl l
  ·exact .inr ⟨k,c,ec,cellK c _ z⟩
 ·obtain ⟨v,z⟩:=I.cell x c e
  exact ⟨v,cellK c v z⟩
 ·rw [t.pn] at hp
  simp at hp
 ·refine (I.hok b u e).stay (fun c v hc q=>keep c v ?_ ?_ q) (fun _ q=>q) fun _ _ q=>q
  ·intro z
   have f:=I.zmz c z
   rcases hc with y | y
   ·rw [y,e] at f;cases f
   ·rw [y] at f;cases f
  ·intro z
   have f:=(hch c z).2.1
   rcases hc with y | y
   ·rw [y,e] at f;cases f
   ·rw [y] at f;cases f
variable {M:Model} {E:Value→Shared→Prop} {x:Addr} {cls:Value} {dx:Option Addr}
theorem ExAt.zrM (I:Inv X [] σ H s) {b:Addr} {o:Obj} {vs:Array Value} (e:s.heap.get? b=some o) (d:o.data = .fields vs):b ∉ frs X.stack:=fun hm=>by
 obtain ⟨_,o',ho,hnf⟩:=I.stack.mem hm
 rw [e] at ho;cases ho
 exact hnf vs d
theorem znx (I:Inv X [] σ H s) (t:Top1 X) {oe:Obj} {vs:Array Value} {head:Value} {had:Bool} {Q:Unit→Shared→Prop} (hx0:X.s₀.heap.get? x=none) (hxH:H x=none) (he:s.heap.get? x=some oe) (hd:oe.data = .fields vs) (hsz:1 < vs.size)
  (q:∀ h',Inv X [] σ H { s with heap:=h' }→ExAt X.s₀.heap h' H x oe.cls oe.dict true→Q () { s with heap:=h' }) :
  wpAny M X.A (do let a ← frameOf X.env;let pl ← entryPlaceOf X.env.locals had;let b ← EntryCells.newEntry head a .none (rawInt X.env.locals) .none pl;setField (.ref x) 1 b) Q E s:=by
 have hfr:X.A.frames=some (X.env :: X.outer):=by rw [← t.stk];exact I.ok.frames
 have hl:s.heap.FunFrames X.base (X.env :: X.outer):=by rw [← t.stk];exact I.stack
 have hne:x ∉ frs X.stack:=ExAt.zrM I he hd
 have efr:(X.env :: X.outer).filterMap (·.frame)=frs X.stack:=by rw [t.stk];rfl
 refine wpAny_bind (wpAny_frameOf_fun hfr hl t.frm fun h1 s1=>wpAny_bind (wpAny_entryPlaceOf fun pl hpl=>?_))
 rw [efr] at s1
 unfold EntryCells.newEntry
 unfold newFields
 refine wpAny_bind (wpAny_newObj_type ?_ (hpl.sizeOk5 _ _ _ _ _))
 have he1:h1.get? x=some oe:=(s1.2.1 x hne).trans he
 generalize hto:({ cls := .type "traceback",dict:=none,data := .fields ([head, .ref X.env.locals, .none,rawInt X.env.locals, .none] ++ (if pl.isEmpty then List.replicate 6 Value.none else pl)).toArray }:Obj)=to
 have hte:∃ ts,to.data = .fields ts∧3 < ts.size:=⟨_,by rw [← hto],by simp only [List.size_toArray,List.length_append,List.length_cons,List.length_nil];omega⟩
 have htf:to.isFreed=false:=by rw [← hto];rfl
 have he2:(h1.push to).get? x=some oe:=Heap.get?_push_of_some _ he1
 have hTx:h1.objs.size ≠ x:=Nat.ne_of_gt (Heap.lt_size he1)
 refine wpAny_setField he2 hd hsz ?_
 have hd3:=Obj.data_mapFields hd (·.setIfInBounds 1 (Value.ref h1.objs.size))
 have he3:=Heap.get?_update_self (Obj.mapFields (·.setIfInBounds 1 (Value.ref h1.objs.size))) he2 (Obj.isFreed_of_fields hd3)
 have hT3:=(Heap.get?_update_other (h1.push to) (Obj.mapFields (·.setIfInBounds 1 (Value.ref h1.objs.size))) (Ne.symm hTx)).trans (Heap.get?_push_size h1 htf)
 have kp:∀ b o,b ≠ x→h1.get? b=some o→((h1.push to).update x (Obj.mapFields (·.setIfInBounds 1 (Value.ref h1.objs.size)))).get? b=some o:=fun b o hb e =>
  (Heap.get?_update_other _ _ (Ne.symm hb)).trans (Heap.get?_push_of_some _ e)
 have hT0:X.s₀.heap.get? h1.objs.size=none:=by
  cases e:X.s₀.heap.get? h1.objs.size with
  | none=>rfl
  | some o =>
   have h2:=Nat.lt_of_lt_of_le (Heap.lt_size e) I.sz
   rw [s1.1] at h2
   exact absurd h2 (Nat.lt_irrefl _)
 have hTH:H h1.objs.size=none:=by rw [s1.1];exact I.hok.fresh (Nat.le_refl _)
 refine q _ (I.recs t (ch:=[x]) (fun b hb=>?_) (fun b o hb hc e=>?_) fun b o hb e=>?_) ⟨hx0,hxH,_,_,he3,Obj.cls_mapFields _ _,?_,hd3,by simpa using hsz, .inr ⟨h1.objs.size,to,?_⟩⟩
 ·rw [List.mem_singleton.mp hb]
  exact ⟨hx0,hxH,oe,vs,he,hd⟩
 ·exact kp b o (fun z=>hc (by rw [z];exact List.mem_singleton.mpr rfl)) ((s1.2.1 b hb).trans e)
 ·obtain ⟨sl,e1⟩:=s1.2.2 b o e
  exact ⟨sl,kp b _ (fun z=>hne (z ▸ hb)) e1⟩
 ·obtain ⟨c,d,dt,sl⟩:=oe
  cases dt <;> rfl
 ·obtain ⟨ts,d1,d2⟩:=hte
  exact ⟨ts,by simp [hsz],hTx,hT0,hTH,hT3,d1,d2⟩
theorem zmS (I:Inv X [] σ H s) (t:Top1 X) {tb:Bool} {Q:Unit→Shared→Prop} (e:ExAt X.s₀.heap s.heap H x cls dx tb)
  (q:∀ h',Inv X [] σ H { s with heap:=h' }→ExAt X.s₀.heap h' H x cls dx true→Q () { s with heap:=h' }):wpAny M X.A (noteFrame (.ref x) X.env) Q E s:=by
 obtain ⟨hx0,hxH,oe,vs,he,rfl,rfl,hd,hsz,tb'⟩:=id e
 unfold noteFrame
 simp only [t.frm]
 rcases tb' with ⟨_,h1⟩ | ⟨T,oT,ts,h1,hTx,hT0,hTH,hT,hdT,h3⟩
 ·refine wpAny_bind (wpAny_field he hd h1 ?_)
  rw [if_neg (by decide)]
  exact znx I t hx0 hxH he hd hsz q
 ·refine wpAny_bind (wpAny_field he hd h1 ?_)
  rw [if_pos (show (Value.ref T != Value.none)=true from by simp)]
  obtain ⟨v3,hv3⟩ : ∃ v3,ts[3]? = some v3:=⟨ts[3],Array.getElem?_eq_getElem h3⟩
  refine wpAny_bind (wpAny_field hT hdT hv3 ?_)
  by_cases hb:(v3 == rawInt X.env.locals)=true
  ·rw [if_pos hb]
   exact wpAny_pure (q s.heap I ⟨hx0,hxH,oe,vs,he,rfl,rfl,hd,hsz, .inr ⟨T,oT,ts,h1,hTx,hT0,hTH,hT,hdT,h3⟩⟩)
  ·rw [if_neg hb]
   refine wpAny_bind (wpAny_setField hT hdT h3 ?_)
   have oth:∀ b,b ≠ T→(s.heap.update T (Obj.mapFields (·.setIfInBounds 3 Value.none))).get? b=s.heap.get? b:=fun b hb=>Heap.get?_update_other _ _ (Ne.symm hb)
   have hTfr:T ∉ frs X.stack:=ExAt.zrM I hT hdT
   have I1:Inv X [] σ H { s with heap:=s.heap.update T (Obj.mapFields (·.setIfInBounds 3 Value.none)) }:=I.recs t (ch:=[T]) (fun b hb=>by
    rw [List.mem_singleton.mp hb]
    exact ⟨hT0,hTH,oT,ts,hT,hdT⟩) (fun b o _ hc e=>(oth b (fun z=>hc (by rw [z];exact List.mem_singleton.mpr rfl))).trans e) fun b o hb e=>⟨o.slots,(oth b (fun z=>hTfr (z ▸ hb))).trans e⟩
   exact znx I1 t hx0 hxH ((oth x (Ne.symm hTx)).trans he) hd hsz q
theorem zg1 {A:Around} (I:Inv X [] σ H s) (t:Top1 X) {fo:Option Addr} {Q:Unit→Shared→Prop} (e:ExAt X.s₀.heap s.heap H x cls dx true)
  (q:∀ h',Inv X [] σ H { s with heap:=h' }→ExAt X.s₀.heap h' H x cls dx true→Q () { s with heap:=h' }):wpAny M A (setFlight (.ref x) fo) Q E s:=by
 obtain ⟨hx0,hxH,oe,vs,he,rfl,rfl,hd,hsz,tb'⟩:=id e
 rcases tb' with ⟨z,_⟩ | ⟨T,oT,ts,h1,hTx,hT0,hTH,hT,hdT,h3⟩
 ·cases z
 unfold setFlight
 refine wpAny_bind (wpAny_field he hd h1 ?_)
 rw [if_pos (show (Value.ref T != Value.none)=true from by simp)]
 refine wpAny_setField hT hdT h3 ?_
 generalize (fo.elim Value.none fun f=>rawInt f)=fv
 have oth:∀ b,b ≠ T→(s.heap.update T (Obj.mapFields (·.setIfInBounds 3 fv))).get? b=s.heap.get? b:=fun b hb=>Heap.get?_update_other _ _ (Ne.symm hb)
 have hTfr:T ∉ frs X.stack:=ExAt.zrM I hT hdT
 have hd3:=Obj.data_mapFields hdT (·.setIfInBounds 3 fv)
 refine q _ (I.recs t (ch:=[T]) (fun b hb=>?_) (fun b o _ hc e=>(oth b (fun z=>hc (by rw [z];exact List.mem_singleton.mpr rfl))).trans e) fun b o hb e=>⟨o.slots,(oth b (fun z=>hTfr (z ▸ hb))).trans e⟩)
  ⟨hx0,hxH,oe,vs,(oth x (Ne.symm hTx)).trans he,rfl,rfl,hd,hsz, .inr ⟨T,_,_,h1,hTx,hT0,hTH,Heap.get?_update_self _ hT (Obj.isFreed_of_fields hd3),hd3,by simpa using h3⟩⟩
 rw [List.mem_singleton.mp hb]
 exact ⟨hT0,hTH,oT,ts,hT,hdT⟩
end
abbrev WX:=St→Value→Option Addr→Hp→Prop
def XE (X:Cx) (W:WX):Value→Shared→Prop:=fun e s'=>∃ σ H' x cls dx,e = .ref x∧Inv X [] σ H' s'∧ExAt X.s₀.heap s'.heap H' x cls dx false∧W σ cls dx H'
section
variable {X:Cx}
theorem zur (t:Top1 X) {W:WX}:PassesOwn (model X.prog X.w) X.A X.env (XE X W):=by
 rintro e s' ⟨σ,H',x,cls,dx,rfl,I,ex,w⟩
 unfold notedBy
 refine zmS I t ex fun h1 I1 e1=>?_
 unfold cameBackBy
 obtain ⟨hx0,hxH,oe,vs,he,hc,hdx,hd,hsz,tb'⟩:=id e1
 rcases tb' with ⟨z,_⟩ | ⟨T,oT,ts,h1',hTx,hT0,hTH,hT,hdT,h3⟩
 ·cases z
 refine wpAny_bind (wpAny_field he hd h1' ?_)
 rw [if_neg (show ¬ ((Value.ref T == Value.none)=true) from by simp)]
 exact zg1 I1 t e1 fun h2 I2 e2=>⟨σ,H',x,cls,dx,rfl,I2,e2.any,w⟩
def CXE (P:Program) (w:World):CXT:=fun outer H s E e s'=>∃ x cls dx H',e = .ref x∧s'.os=s.os∧AllBare s'.gens∧Un (frs outer) [] H H' s.heap s'.heap∧HOk P w H' s'.heap∧ExAt s.heap s'.heap H' x cls dx true∧E cls dx H'
end
end L2
namespace L2
open PySem PySem.Spec PyProof.Rows
structure zhj (X:Cx) (W:WX):Prop where
 top:Top1 X
 ex:X.ex=[]
 to:∀ e s',XE X W e s'→X.xe e s'
 passes:PassesOwn (model X.prog X.w) X.A X.env X.xe
theorem zhj.of {X:Cx} (t:Top1 X) (hx:X.ex=[]) (W:WX):zhj (X.wish (XE X W)) W where
 top:=⟨t.stk,t.frm,t.pn⟩
 ex:=hx
 to:=fun e s' ⟨σ,H',x,cls,dx,a,I,b,c⟩=>⟨σ,H',x,cls,dx,a,I.zet,b,c⟩
 passes:=zur t
theorem Inv.zpW {X:Cx} {pins:List (Addr × Obj)} {σ:St} {H:Hp} {s:Shared} (I:Inv X pins σ H s):Inv X [] σ H s:=I.zmT fun p hp=>absurd hp (by simp)
theorem Inv.first {X:Cx} {pins:List (Addr × Obj)} {σ:St} {H:Hp} {s:Shared} (I:Inv X pins σ H s) (hx:X.ex=[]) {b:Addr} (h:s.heap.get? b=none):X.s₀.heap.get? b=none:=by
 cases e:X.s₀.heap.get? b with
 | none=>rfl
 | some o =>
  obtain ⟨o',e'⟩:=I.base.there b o e (by rw [hx];simp)
  rw [h] at e';cases e'
theorem ExAt.first {X:Cx} {pins:List (Addr × Obj)} {σ:St} {H H':Hp} {s:Shared} {h':Heap} {x:Addr} {cls:Value} {dx:Option Addr} {tb:Bool} (I:Inv X pins σ H s) (hx:X.ex=[]) (e:ExAt s.heap h' H' x cls dx tb) :
  ExAt X.s₀.heap h' H' x cls dx tb:=by
 obtain ⟨a,b,oe,vs,c1,c2,c3,c4,c5,c6⟩:=e
 refine ⟨I.first hx a,b,oe,vs,c1,c2,c3,c4,c5,c6.imp id fun ⟨T,oT,ts,d1,d2,d3,d4,d5,d6,d7⟩=>⟨T,oT,ts,d1,d2,I.first hx d3,d4,d5,d6,d7⟩⟩
theorem zc1.at {P:Program} {w:World} {H:Hp} {h:Heap} {a:Addr} {o:HO} (x:zc1 P w H h a o):∃ ob,h.get? a=some ob:=by
 cases o with
 | lst xs=>obtain ⟨_,_,_,_,e⟩:=x;exact ⟨_,e⟩
 | tup xs=>obtain ⟨_,_,_,_,e,_⟩:=x;exact ⟨_,e⟩
 | dK kvs=>obtain ⟨_,_,_,_,o,_,_,e,_⟩:=x;exact ⟨_,e⟩
 | dT kvs=>obtain ⟨_,_,_,_,o,_,_,e,_⟩:=x;exact ⟨_,e⟩
 | set S n=>obtain ⟨o,_,_,_,e,_⟩:=x;exact ⟨_,e⟩
 | ins C dx fs=>obtain ⟨_,_,_,e,_⟩:=x;exact ⟨_,e⟩
 | own y=>exact x
 | xd fs=>obtain ⟨_,⟨_,_,_,e,_⟩,_⟩:=x;exact ⟨_,e⟩
 | rng lo hi=>obtain ⟨_,_,_,e⟩:=x;exact ⟨_,e⟩
 | frz ob u=>obtain ⟨e,_⟩:=x;exact ⟨_,e⟩
 | tbl ps=>exact ⟨_,show h.get? a=some _ from x⟩
 | met f y=>exact ⟨_,show h.get? a=some _ from x⟩
 | ext φ=>obtain ⟨_,e,_⟩:=x;exact e
theorem HOk.zsI {P:Program} {w:World} {H:Hp} {h:Heap} {a:Addr} (x:HOk P w H h) (e:h.get? a=none):H a=none:=by
 cases ea:H a with
 | none=>rfl
 | some o =>
  obtain ⟨ob,e'⟩:=(x a o ea).at
  rw [e] at e';cases e'
section
variable {P:Program} {w:World} {K:PySem.W.Frag} {mg:Str→Option Value} {base:Heap}
abbrev cxX (P:Program) (w:World) (K:PySem.W.Frag) (mg:Str→Option Value) (base:Heap) (N:List Str) (qual:Str) (scope:Scope) (f:Addr) (cd:Value) (A:Around) (outer:List Env) (s:Shared) (H:Hp) (E:XK):Cx :=
 (cxOf (CXE P w) P w K mg base N qual scope f cd A outer s H E).wish (XE (cxOf (CXE P w) P w K mg base N qual scope f cd A outer s H E) fun _=>E)
theorem zia {CX:CXT} {N:List Str} {qual:Str} {scope:Scope} {f:Addr} {cd:Value} {A:Around} {outer:List Env} {s:Shared} {H:Hp} {E:XK}:Top1 (cxOf CX P w K mg base N qual scope f cd A outer s H E):=⟨rfl,rfl,rfl⟩
theorem zah {N:List Str} {qual:Str} {scope:Scope} {f:Addr} {cd:Value} {A:Around} {outer:List Env} {s:Shared} {H:Hp} {E:XK}:zhj (cxX P w K mg base N qual scope f cd A outer s H E) (fun _=>E):=zhj.of zia rfl _
theorem zsh {N:List Str} {qual:Str} {scope:Scope} {f:Addr} {cd:Value} {A:Around} {outer:List Env} {s:Shared} {H:Hp} {E:XK} {st:List Stmt} {t:TS} (h:PSs (cxX P w K mg base N qual scope f cd A outer s H E) st t) :
  PSs (cxOf (CXE P w) P w K mg base N qual scope f cd A outer s H E) st t:=by
 intro pins s1 σ H1 D I hw
 refine wpAny_mono (h pins s1 σ H1 D (I.wish _) hw) (fun _ _ q=>q.zet) fun e s' hx=>?_
 obtain ⟨σ',H',x,cls,dx,rfl,I',ex,q⟩:=hx
 show wpAny _ _ (leaving _ _) _ _ _
 unfold leaving
 refine wpAny_bind (zmS (E:=fun e' s''=>CXE P w outer H s E e' s'') I' zia ex fun h1 I1 e1=>?_)
 refine zg1 I1 zia e1 fun h2 I2 e2=>?_
 exact ⟨x,cls,dx,H',rfl,I2.os,I2.bare,I2.base,I2.hok,e2,q⟩
structure DefX (P:Program) (w:World) (K:PySem.W.Frag) (mg:Str→Option Value) (base:Heap) (x:Str) (k:Nat) (ps:List Str) (sp:Sp):Prop where
 ex:∃ f fd,FnOk P w K mg base (CXE P w) k f fd ps sp∧mg x=some (.ref f)∧PySem.W.keepIn K (.ref f)=true∧Binds K fd ps []
theorem DefX.of {x:Str} {st:Stmt} {N ps:List Str} {k:Nat} {sp:Sp} (h:HasFn K mg x st) (S:zaz N ps (zae st))
  (bind:∀ (kV doc pm:Value) (an:Option Addr) (cdv ct:Value) (us:List Value),us.length=ps.length→bindArgs (PySem.W.fnOf x x (zax st) (zap st) (zae st) .none kV doc pm an cdv ct) ⟨us,[]⟩ = pure (ps.zip us))
  (len:∀ vs H Q E,sp vs H Q E→vs.length=ps.length)
  (hbody:∀ (f:Addr) (cdv:Value) (A:Around) (outer:List Env) (s:Shared) (H:Hp) (vs:List V) (Q:VK) (E:XK),Room k (A.deeper (envOfC x (zae st) s.heap.objs.size f cdv))→sp vs H Q E →
   ∃ t,PSs (cxX P w K mg base N x (zae st) f cdv A outer s H E) (zap st) t∧t { nx:=fun _ H'=>Q .non H',rt:=Q } (start N vs) H):DefX P w K mg base x (k + 1) ps sp:=by
 obtain ⟨f,fd,hm,F⟩:=h.ex
 refine ⟨f,fd,?_,hm,F.kp,F.binds bind⟩
 obtain ⟨oc,od,kV,doc,pm,an,cdv,ct,osl,rfl,lk,hcd⟩:=F.ex
 refine ztS lk hcd S len fun A outer s H vs Q E hr hsp=>?_
 obtain ⟨t,h,q⟩:=hbody f cdv A outer s H vs Q E hr hsp
 exact ⟨t,zsh h,q⟩
end
section
variable {X:Cx} {W:WX} {x:Str} {p pos np cpos:Pos} {e:Expr} {es:List Expr} {t:TA}
def zvr (sp:Sp) (W:WX) (t:TA):TE:=fun σ H Q=>t σ H fun vs H1=>sp vs H1 Q fun cls dx H'=>W σ cls dx H'
theorem ztZ {k:Nat} {ps:List Str} {sp:Sp} (T:zhj X W) (D:DefX X.prog X.w X.K X.mg X.base x k ps sp) (hr:Room k X.A) (hg:Gl X x) (ha:PA X (e :: es) t)
  (hdb:(x == ("__debug__" : Str))=false:=by decide) (he:starEach (e :: es) X.env=(false,eval e X.env) :: starEach es X.env:=by rfl) (hpl:(backTo pos (starEach es X.env)).any (·.1)=false:=by rfl) :
  PE X (.Call (.Name x p) (e :: es) [] pos) (zvr sp W t):=by
 obtain ⟨f,fd,F,hm,hk,hb⟩:=D.ex
 intro pins s σ H Q I h
 refine wpAny_Call_Name_kw (zfW I hg hm ?_ hdb)
 refine PySem.W.callWith_K (h₀:=X.base) I.ok.mod.kin hk (thn (ha pos pins s σ H _ I h) fun us s1 ⟨vs,H1,I1,r,q⟩=>⟨I1.kIn,?_⟩) he hpl
 have hl:us.length=ps.length:=by rw [← r.length];exact F.len _ _ _ _ q
 have hb':=hb s1 us I1.kIn (by rw [List.append_nil];exact hl)
 rw [List.append_nil] at hb'
 refine wpAny_call (codeAny_mono (F.run X.A X.stack s1 H1 ⟨us,[]⟩ us vs Q _ hr I1.env0 hb' r q) fun r s' hq=>?_)
 cases r with
 | error ev =>
  obtain ⟨a,cls,dx,H',rfl,os,bare,un,hok,ex,q'⟩:=hq
  have I2:=(I1.zsQ os un hok bare (fun b z=>absurd z (by simp))).zpW
  exact T.to _ _ ⟨σ,H',a,cls,dx,rfl,I2,(ex.first I1 T.ex).any,q'⟩
 | ok fl =>
  cases fl with
  | ret u=>exact I1.after hq
  | next=>exact False.elim hq
  | brk=>exact False.elim hq
  | cont=>exact False.elim hq
abbrev bmVE:List Value:=[.type "ValueError", .type "Exception", .type "BaseException", .type "object"]
structure OwnE (K:PySem.W.Frag) (C:Addr):Prop where
 inK:PySem.W.excIn K C bmVE "ValueError.__new__" = true
theorem OwnE.obj {K:PySem.W.Frag} {C:Addr} (O:OwnE K C) {h:Heap} (X:K.In h):∃ bm N nm q bs hdct sn sub ab col dd k0 k1 k2 k3 k5 mN,h.get? C=some (excClassObj nm q C N bs bm hdct sn sub ab col dd k0 k1 k2 k3 k5 "ValueError.__new__")∧h.Ns N mN∧mN "__init__" = none∧OwnTail h bmVE bm:=by
 have q:=O.inK
 unfold PySem.W.excIn at q
 split at q
 ·rename_i dd cd sl ho
  split at q
  ·rename_i C' bm k0 k1 k2 k3 n k5 hm hs
   simp only [Bool.and_eq_true,beq_iff_eq,Bool.not_eq_true'] at q
   obtain ⟨⟨⟨⟨⟨rfl,rfl⟩,hdel⟩,ht⟩,hok⟩,hni⟩:=q
   obtain ⟨nm,bs,mro,ns,qn,hd,sn,sub,ab,col,del⟩:=cd
   dsimp only at hm hdel hok hni
   subst hm hdel
   have hsl:sl = #[k0,k1,k2,k3,some (.builtin "ValueError.__new__"),k5]:=by
    obtain ⟨l⟩:=sl
    simp only at hs
    rw [hs]
   subst hsl
   exact ⟨bm,ns,nm,qn,bs,hd,sn,sub,ab,col,dd,k0,k1,k2,k3,k5,_,X _ _ ho, .of_isNs (PySem.W.isNs_of_in X hok),PySem.W.nsMap_none_of_in X hok hni,PySem.W.tail_of_in X ht⟩
  ·cases q
 ·cases q
def zve (W:WX) (C:Addr) (t:TA):TS:=fun _ σ H=>t σ H fun vs H1=>vs.length ≤ sizeLine∧W σ (.ref C) none H1
theorem zro {C:Addr} (T:zhj X W) (hc:X.calm=true) (O:OwnE X.K C) (hg:Gl X x) (hm:X.mg x=some (.ref C)) (ha:PA X (e :: es) t)
  (hdb:(x == ("__debug__" : Str))=false:=by decide) (he:starEach (e :: es) X.env=(false,eval e X.env) :: starEach es X.env:=by rfl) (hpl:(backTo cpos (starEach (e :: es) X.env)).any (·.1)=false:=by rfl) :
  PS X (.Raise (some (.Call (.Name x np) (e :: es) [] cpos)) none pos) (zve W C t):=by
 intro pins s σ H D I h
 obtain ⟨bm,N,nm,q,bs,hdct,sn,sub,ab,col,dd,k0,k1,k2,k3,k5,mN,hC,hN,hni,hT⟩:=O.obj I.ok.mod.kin
 have hbase:bm.contains (.type "BaseException")=true:=hT.hasType (by decide)
 refine wpAny_Raise_call_subT (nm:=nm) (q:=q) (N:=N) (bs:=bs) (hdct:=hdct) (sn:=sn) (sub:=sub) (ab:=ab) (col:=col) (dd:=dd) (k0:=k0) (k1:=k1) (k2:=k2) (k3:=k3) (k5:=k5) PySem.F.excBase_ValueError hbase (I.ok.hd hc) hpl hni (zfW I hg hm ⟨rfl,?_⟩ hdb)
 rw [he]
 refine Calls.evalArgs_plain ?_
 have ha':=ha cpos pins s σ H _ I h
 rw [he] at ha'
 refine thn ha' fun us s1 ⟨vs,H1,I1,r,hz,q1⟩=>⟨rfl,by rw [← r.length];exact hz,I1.bk _ _ hC,hN.keeps I1.bk,hT.keeps I1.bk,fun h' a M=>?_⟩
 obtain ⟨tt,ht,htn,_⟩:=M.there
 have hH:H1 a=none:=I1.hok.zsI M.new
 refine T.to _ _ ⟨σ,H1,a, .ref C,none,rfl,(I1.kept (t':=s1.toks) M.keeps).zpW,⟨I1.first T.ex M.new,hH,_,_,ht,rfl,rfl,rfl,by simp, .inl ⟨rfl,rfl⟩⟩,q1⟩
end
end L2
namespace L2
open PySem PySem.Spec PyProof.Rows
structure XC (K:PySem.W.Frag) (C:Addr):Prop where
 ob:∃ nm q N bs bm hdct sn sub ab col dd k0 k1 k2 k3 k5,K.lookup C=some (excClassObj nm q C N bs bm hdct sn sub ab col dd k0 k1 k2 k3 k5 "ValueError.__new__")
 ga:PySem.W.findIn K (.ref C) "__getattribute__" = some (some (.builtin "BaseException.__getattribute__"))
 gt:PySem.W.findIn K (.ref C) "__getattr__" = some none
 cl:PySem.W.findIn K (.ref C) "__class__" = some (some (.builtin "object.__class__"))
 be:PySem.W.subIn K (.ref C) (.type "BaseException")=some true
 oj:PySem.W.subIn K (.ref C) (.type "object")=some true
section
variable {prog:Program} {w:World} {A:Around} {E:Value→Shared→Prop} {h:Heap} {g:Array GenState} {d:Drawn} {t:Nat} {os:OsState} {a:Addr} {o:Obj} {K:PySem.W.Frag} {C:Addr}
theorem zuX {R:Result→Shared→Prop} (c:XC K C) (X:K.In h) (hx:h.get? a=some o) (hc:o.cls = .ref C) (hq:R (.ok (.ret (.ref C))) ⟨h,g,d,t,os⟩) :
  codeAny (model prog w) A (.call (.builtin "getset_descriptor.__get__") ⟨[.builtin "object.__class__", .ref a, .ref C],[]⟩) R ⟨h,g,d,t,os⟩:=by
 have hT5:(⟨h,g,d,t,os⟩ : Shared).TypeIs (.builtin "object.__class__") "getset_descriptor":=F.typeOf_object_class
 have L:PySem.W.Looks (model prog w) h (isSubtype (.ref C) (.type (".".intercalate ("object.__class__".cutAt '.').dropLast))) true:=by
  rw [F.owner_object_class]
  exact PySem.W.looks_subIn X c.oj
 refine codeAny_call_builtin F.slot_gs_get.plain F.entry_gs_get (F.slot_gs_get.check _ _ _ _ _ _ _ _ hT5 (F.args_gs_get _ _ _) ?_)
 repeat (any_goals (first | assumption | (with_reducible refine wpAny_loadPart_at hx ?_;rw [hc]) | with_reducible refine L.at ?_ | wp_step))
 refine ⟨Code.quiet_builtin _ (by decide +kernel),codeAny_builtin F.entry_object_class ?_⟩
 repeat (any_goals (first | assumption | (with_reducible refine wpAny_loadPart_at hx ?_;rw [hc]) | wp_step))
theorem zrf {tk:Tok} {Q:Fin→Shared→Prop} (c:XC K C) (X:K.In h) (hx:h.get? a=some o) (hc:o.cls = .ref C) (hq:Q (.done (.ret (.ref C))) ⟨h,g,d,t,os⟩) :
  wpAny (model prog w) A (Builtin.«object.__getattribute__» ⟨[.ref a, .str "__class__" tk],[]⟩) Q E ⟨h,g,d,t,os⟩:=by
 have hT5:(⟨h,g,d,t,os⟩ : Shared).TypeIs (.builtin "object.__class__") "getset_descriptor":=F.typeOf_object_class
 have f5:=F.typeOf_object_class
 have f6:=F.slot_gs_get.lookup
 have f7:=F.slot_gs_set.lookup
 have L1:=PySem.W.looks_findIn (M:=model prog w) X c.cl
 repeat (any_goals (first | assumption | (with_reducible refine wpAny_loadPart_at hx ?_;rw [hc]) | with_reducible refine L1.at ?_ | wp_step))
 refine zuX c X hx hc ?_
 repeat (any_goals (first | assumption | wp_step))
theorem zrv {M:Model} {nameV:Value} {Q:Unit→Shared→Prop} (c:XC K C) (X:K.In h) (hx:h.get? a=some o) (hc:o.cls = .ref C) (hq:Q () ⟨h,g,d,t,os⟩) :
  wpAny M A (checkBuiltinCall "BaseException.__getattribute__" ⟨[.ref a,nameV],[]⟩) Q E ⟨h,g,d,t,os⟩:=by
 have L:PySem.W.Looks M h (isInstance (.ref a) (.type "BaseException")) true:=by
  refine PySem.W.Looks.andThen (a := .ref C) ?_ (PySem.W.looks_subIn X c.be)
  rw [← hc]
  exact (PySem.W.Looks.ld hx).andThen .now
 have hk:builtinKind "BaseException.__getattribute__" = some .slot:=by decide +kernel
 have hs:splitId "BaseException.__getattribute__" = some ("BaseException", "__getattribute__"):=by decide +kernel
 have ha:=F.args_bexc_ga (.ref a) nameV
 exact PySem.W.check_slot (i := "BaseException.__getattribute__") (owner := "BaseException") (n := "__getattribute__") (self := .ref a) (rest:=[nameV]) (kw:=[]) (s:=⟨h,g,d,t,os⟩) hk hs L ha hq
theorem zwC {tk:Tok} {fill expr:Bool} {Q:Value→Shared→Prop} (c:XC K C) (X:K.In h) (hx:h.get? a=some o) (hc:o.cls = .ref C) (hq:Q (.ref C) ⟨h,g,d,t,os⟩) :
  wpAny (model prog w) A (getAttrBy (.ref a) (.str "__class__" tk) fill expr) Q E ⟨h,g,d,t,os⟩:=by
 have f3:=PySem.F.excAttr_ValueError.ga.bind (.ref a)
 have hx0:(expr && onTheHeap (Value.builtin "BaseException.__getattribute__"))=false:=by cases expr <;> rfl
 have hx2:(Value.builtin "BaseException.__getattribute__" == Value.builtin "object.__getattribute__")=false:=by decide +kernel
 have hx1:(onTheHeap (Value.ref C) && Value.builtin "BaseException.__getattribute__" == Value.builtin "object.__getattribute__")=false:=by rw [hx2];rfl
 have L1:=PySem.W.looks_findIn (M:=model prog w) X c.ga
 have L2:=PySem.W.looks_findIn (M:=model prog w) X c.gt
 repeat (any_goals (first | assumption | (with_reducible refine wpAny_loadPart_at hx ?_;rw [hc]) | with_reducible refine L1.at ?_ | with_reducible refine L2.at ?_ | wp_step))
 refine codeAny_call_builtin PySem.F.excAttr_ValueError.ga.plain F.entry_bexc_ga (zrv c X hx hc (zrf c X hx hc ?_))
 repeat (any_goals (first | assumption | wp_step))
theorem zsZ {Q:Option Value→Shared→Prop} (c:XC K C) (X:K.In h) (hx:h.get? a=some o) (hc:o.cls = .ref C) (hq:Q (some (.ref C)) ⟨h,g,d,t + 1,os⟩) :
  wpAny (model prog w) A (getAttr? (.ref a) "__class__") Q E ⟨h,g,d,t,os⟩:=by
 unfold getAttr? getAttrBy?
 repeat (any_goals (first | assumption | with_reducible apply zwC c X hx hc | wp_step))
end
end L2
namespace L2
open PySem PySem.Spec PyProof.Rows
section
variable {K:PySem.W.Frag} {C D x:Addr} {oe:Obj} {b:Bool}
theorem XC.get (c:XC K C):∃ cd,PySem.W.clsIn K C=some cd∧cd.mro.isEmpty=false∧cd.mro.contains (.ref C)=true∧PySem.W.typeIn K (.ref C)=some (.type "type"):=by
 obtain ⟨nm,q,N,bs,bm,hdct,sn,sub,ab,col,dd,k0,k1,k2,k3,k5,e⟩:=c.ob
 refine ⟨{ name:=nm,bases:=bs,mro := .ref C :: bm,ns:=N,qualname:=q,hasDict:=hdct,slotNames:=sn,subclasses:=sub,abstract:=ab,collection:=col,hasDel:=false },?_,rfl,?_,?_⟩
 ·unfold PySem.W.clsIn
  rw [e]
 ·simp
 ·show (K.lookup C).map (·.cls)=_
  rw [e]
  rfl
theorem XC.isType (c:XC K C) {M:Model} {h:Heap} (X:K.In h):PySem.W.Looks M h (PySem.isType (.ref C)) true:=by
 obtain ⟨nm,q,N,bs,bm,hdct,sn,sub,ab,col,dd,k0,k1,k2,k3,k5,e⟩:=c.ob
 intro A' Q' E' s' k q
 unfold PySem.isType loadHead
 exact wpAny_bind (wpAny_loadPart (k _ _ (X _ _ e)) (wpAny_pure q))
theorem zrC (c:XC K D) (hc:oe.cls = .ref D):PySem.W.KitX K (.ref x) (.ref D) (fun h=>h.get? x=some oe) where
 ty:=fun M h _ p=>hc ▸ (PySem.W.Looks.ld p).andThen .now
 it:=fun _ _ X _=>c.isType X
 ne:=fun h tp dd its n sl X htp=>by
  obtain ⟨nm,q,N,bs,bm,hdct,sn,sub,ab,col,dd,k0,k1,k2,k3,k5,e⟩:=c.ob
  refine Bool.eq_false_iff.mpr fun q=>?_
  have e':D=tp:=Value.ref.inj (beq_iff_eq.mp q)
  subst e'
  have z:=Option.some.inj ((X _ _ e).symm.trans htp)
  have z':=congrArg Obj.data z
  cases z'
 ca:=fun {_ _ _ _ _ s} X p k=>by obtain ⟨h,g,d,t,os⟩:=s;exact zsZ c X p hc k
theorem ztT (cD:XC K D) (cC:XC K C) (s:PySem.W.subIn K (.ref D) (.ref C)=some b):PySem.W.kitOne K (.ref D) (.ref C)=some b:=by
 unfold PySem.W.kitOne
 split
 ·rename_i q
  have e:D=C:=Value.ref.inj (beq_iff_eq.mp q)
  subst e
  obtain ⟨cd,h1,h2,h3,_⟩:=cD.get
  change PySem.W.mroIn K D (.ref D)=some b at s
  unfold PySem.W.mroIn at s
  rw [h1] at s
  simp only [Option.bind_some,h2,h3] at s
  simpa using s
 ·obtain ⟨cd,h1,_,_,h4⟩:=cC.get
  unfold PySem.W.kitCls
  simp only [h1,h4]
  exact s
theorem zq5 {T:String} (s:PySem.W.subIn K (.ref D) (.type T)=some b) (hT:PySem.W.kitMeta T=true):PySem.W.kitOne K (.ref D) (.type T)=some b:=by
 unfold PySem.W.kitOne
 rw [if_neg (by simp)]
 unfold PySem.W.kitCls
 simp only [hT]
 exact s
theorem znX:PySem.W.kitMeta "ValueError" = true:=by kernel_rfl
end
def Cx.zcX (X:Cx) (x:Addr) (oe:Obj):Cx:={ X with A:=X.A.mark (some (.ref x)),calm:=false,pn:=X.pn ++ [(x,oe)],xe:=fun _ _=>False }
theorem Cx.Ok.zcX {X:Cx} (ok:X.Ok) (x:Addr) (oe:Obj):(X.zcX x oe).Ok :=
 ⟨ok.mod,ok.kind,ok.glob,ok.blt,ok.above,ok.inj,ok.has,ok.cab,fun h=>Bool.noConfusion h,ok.frames,ok.stk,ok.exf,ok.bs,ok.bsz,ok.noex,ok.exfs,ok.funs,ok.frf⟩
section
variable {X:Cx} {σ:St} {H:Hp} {s:Shared} {x:Addr} {oe:Obj}
theorem Inv.zcX (I:Inv X [] σ H s) (p:s.heap.get? x=some oe∧H x=none∧x ≠ X.env.locals∧x ∉ X.fs∧∀ v,oe.data ≠ .cell v):Inv (X.zcX x oe) [] σ H s :=
 ⟨I.ok.zcX x oe,I.os,I.bare,I.base,I.loc,I.cell,I.free,I.freeC,fun q hq=>by
  have hq:q ∈ (X.pn ++ [(x,oe)]) ++ []:=hq
  rw [List.append_nil] at hq
  rcases List.mem_append.mp hq with z | z
  ·exact I.pin q (List.mem_append_left _ z)
  ·rw [List.mem_singleton.mp z];exact p,I.hok,I.len⟩
theorem Inv.uncaught (ok:X.Ok) (I:Inv (X.zcX x oe) [] σ H s):Inv X [] σ H s :=
 ⟨ok,I.os,I.bare,I.base,I.loc,I.cell,I.free,I.freeC,fun q hq=>I.pin q (by
  rw [List.append_nil] at hq ⊢
  exact List.mem_append_left _ hq),I.hok,I.len⟩
theorem ExAt.pin {cls:Value} {dx:Option Addr} {tb:Bool} (I:Inv X [] σ H s) (t:Top1 X) (e:ExAt X.s₀.heap s.heap H x cls dx tb):∃ oe vs,oe.cls=cls∧oe.dict=dx∧oe.data = .fields vs∧s.heap.get? x=some oe∧H x=none∧x ≠ X.env.locals∧x ∉ X.fs∧∀ v,oe.data ≠ .cell v:=by
 obtain ⟨_,hxH,oe,vs,he,hc,hdx,hd,_⟩:=e
 have nf:=ExAt.zrM I he hd
 exact ⟨oe,vs,hc,hdx,hd,he,hxH,fun z=>nf (t.mem.mpr (.inl z)),fun z=>nf (t.mem.mpr (.inr z)),fun v z=>by rw [hd] at z;cases z⟩
def rIsX (K:PySem.W.Frag) (x:Addr) (cls:Value):List V→Hp→VK→Prop:=fun xs H Q=>∃ D,cls = .ref D∧XC K D ∧
 ((∃ C b,xs=[.ref x, .ref C]∧PySem.W.kitOne K cls (.ref C)=some b∧Q (.bl b) H)∨(∃ T b,xs=[.ref x, .ty T]∧PySem.W.kitOne K cls (.type T)=some b∧Q (.bl b) H) ∨
  ∃ (p:Addr) (cs:List Addr) (b:Bool),xs=[.ref x, .ref p]∧H p=some (.tup (cs.map V.ref))∧PySem.W.kitAny K cls (cs.map Value.ref)=some b∧Q (.bl b) H)
theorem zfC:∀ {cs:List Addr} {us:List Value},Vals (cs.map V.ref) us→us=cs.map Value.ref
 | [],_, .nil=>rfl
 | _ :: _,_, .cons r t=>by rw [List.map_cons,← zfC t];congr
theorem zrJ (hp:(x,oe) ∈ X.pn):zeR X (.builtin "isinstance") (rIsX X.K x oe.cls):=by
 intro pins s σ H xs us Q I r h
 obtain ⟨D,hc,c,h⟩:=h
 have he:=(I.pin _ (List.mem_append_left _ hp)).1
 have Z:=zrC (x:=x) c hc
 rw [hc] at h
 rcases h with ⟨C,b,rfl,e,q⟩ | ⟨T,b,rfl,e,q⟩ | ⟨p,cs,b,rfl,hpt,e,q⟩
 ·obtain ⟨u,v,rfl,ru,rv⟩:=vals2 r
  obtain rfl:u = .ref x:=ru
  obtain rfl:v = .ref C:=rv
  exact PySem.W.kia_one Z I.kIn he e (by intro z;cases z) fun tk=>⟨.bl b,H,I.tok tk,rfl,q⟩
 ·obtain ⟨u,v,rfl,ru,rv⟩:=vals2 r
  obtain rfl:u = .ref x:=ru
  obtain rfl:v = .type T:=rv
  exact PySem.W.kia_one Z I.kIn he e (by intro z;cases z) fun tk=>⟨.bl b,H,I.tok tk,rfl,q⟩
 ·obtain ⟨u,v,rfl,ru,rv⟩:=vals2 r
  obtain rfl:u = .ref x:=ru
  obtain rfl:v = .ref p:=rv
  obtain ⟨_,its,vi,⟨o,ho,hcl,n,hdt⟩⟩:=I.hok p _ hpt
  obtain ⟨oc,od,odt,osl⟩:=o
  simp only at hcl hdt
  subst hcl hdt
  rw [zfC vi] at ho
  exact PySem.W.kia_tup Z I.kIn he ho e (by intro z;cases z) fun tk=>⟨.bl b,H,I.tok tk,rfl,q⟩
end
section
variable {M:Model} {A:Around} {E:Value→Shared→Prop} {h:Heap} {g:Array GenState} {d:Drawn} {t:Nat} {os:OsState} {e:Addr} {oe:Obj} {K:PySem.W.Frag} {C D:Addr} {b:Bool}
theorem zum {Q:Bool→Shared→Prop} (cC:XC K C) (X:K.In h) (he:h.get? e=some oe) (hc:oe.cls = .ref D) (sb:PySem.W.subIn K (.ref D) (.ref C)=some b) (hq:Q b ⟨h,g,d,t,os⟩) :
  wpAny M A (excMatches (.ref e) (.ref C)) Q E ⟨h,g,d,t,os⟩:=by
 obtain ⟨nm,q,N,bs,bm,hdct,sn,sub,ab,col,dd,k0,k1,k2,k3,k5,hC0⟩:=cC.ob
 have hC:=X _ _ hC0
 have L:=PySem.W.looks_subIn (M:=M) X sb
 have LB:=PySem.W.looks_subIn (M:=M) X cC.be
 have f:=tc_notTuple
 unfold excMatches
 repeat (first | (with_reducible refine wpAny_loadPart_at he ?_;rw [hc]) | with_reducible refine wpAny_loadPart_at hC ?_ | with_reducible refine LB.at ?_ | with_reducible refine L.at ?_ | wp_step)
 cases b <;> (wp_walk;exact hq)
end
theorem zkL {X:Cx} {M:Model} {A:Around} {E:Value→Shared→Prop} {σ:St} {H:Hp} {s:Shared} {i:Nat} {n:Str} {pos:Pos} {Q:Unit→Shared→Prop} (I:Inv X [] σ H s) (hN:X.N.Nodup) (hi:X.N[i]? = some n) (hl:X.env.scope.names.lookup n=some .local)
  (h:∀ s',Inv X [] (σ.set i none) H s'→Q () s'):wpAny M A (do bindName X.env n .none;unbindBehindTheSuite X.env n pos) Q E s:=by
 refine wpAny_bind (wpAny_bindName (zig (v := .non) I hN hi (.inl hl) rfl (fun s1 I1=>?_) (.inr hl)))
 unfold unbindBehindTheSuite
 refine wpAny_onRaise ?_
 have hcls:(X.env.scope.kind == .class || (X.env.scope.kind == .module && X.env.locals != X.env.globals))=false:=by rw [I.ok.kind];rfl
 obtain ⟨m,hn,hlo⟩:=id I1.loc
 have hiσ:i < σ.length:=by rw [I.len];exact (List.getElem?_eq_some_iff.mp hi).1
 have hv:m n=some .none:=by
  obtain ⟨u,ru,l⟩:=hlo i n .non hi (by rw [List.getElem?_set_self hiσ]) (.inl hl)
  obtain rfl:u=Value.none:=ru
  rcases l with ⟨_,l⟩ | ⟨k,_⟩
  ·exact l
  ·have hl':X.env.kindOf n=some .local:=hl
   rcases k with k | k <;> (rw [hl'] at k;cases k)
 refine wpAny_unbindName_local hl hn hv hcls fun h' u hn' hs=>?_
 have cne:=I1.cne
 obtain ⟨oL,_,_,hoL,_⟩:=id hn
 refine h _ ⟨I1.ok,I1.os,I1.bare,⟨fun b o e nn hb hx=>?_,fun b o e nn hb hx=>?_,I1.base.free,fun b o e hx=>?_,I1.base.tups,I1.base.frzs,I1.base.tbls⟩,⟨_,hn',fun j y v' e1 e2 e3=>?_⟩,fun y c e=>?_,I1.free,I1.freeC,fun p hp=>?_,fun b ob e=>?_,by simpa using I.len⟩
 ·exact (hs.2 b (Nat.ne_of_lt (Nat.lt_of_lt_of_le (Heap.lt_size e) I1.ok.above))).trans (I1.base.keep b o e nn hb hx)
 ·obtain ⟨sl,e1⟩:=I1.base.slot b o e nn hb hx
  exact ⟨sl,(hs.2 b (Nat.ne_of_lt (Nat.lt_of_lt_of_le (Heap.lt_size e) I1.ok.above))).trans e1⟩
 ·obtain ⟨o',e1⟩:=I1.base.there b o e hx
  exact ⟨o',(hs.2 b (Nat.ne_of_lt (Nat.lt_of_lt_of_le (Heap.lt_size e) I1.ok.above))).trans e1⟩
 ·have hj:j ≠ i:=fun z=>by
   subst z
   rw [List.getElem?_set_self hiσ] at e2
   cases e2
  rw [List.getElem?_set_ne (Ne.symm hj)] at e2
  obtain ⟨u',r',q⟩:=hlo j y v' e1 (by rw [List.getElem?_set_ne (Ne.symm hj)];exact e2) e3
  refine ⟨u',r',?_⟩
  rcases q with ⟨k,e⟩ | ⟨k,c,e,z⟩
  ·refine .inl ⟨k,?_⟩
   have:y ≠ n:=fun e=>hj (zkK hN e1 (e ▸ hi))
   simp [this,e]
  ·exact .inr ⟨k,c,e,z.sameBut hs (cne y c e)⟩
 ·obtain ⟨w',z⟩:=I1.cell y c e
  exact ⟨w',z.sameBut hs (cne y c e)⟩
 ·obtain ⟨e,nn,ne,nf,d⟩:=I1.pin p hp
  exact ⟨(hs.2 p.1 ne).trans e,nn,ne,nf,d⟩
 ·refine (I1.hok b ob e).stay (fun c w' hc q=>(hs.2 c ?_).trans q) (fun _ q=>q) fun _ _ q=>q
  rintro rfl
  have hfree:=I1.free
  rcases hc with rfl | hc
  ·rw [hfree] at e;cases e
  ·rw [hfree] at hc;cases hc
def PS0 (X:Cx) (st:Stmt) (t:TS):Prop:=∀ (s:Shared) (σ:St) (H:Hp) (D:Ends),Inv X [] σ H s→t D σ H→wpAny (model X.prog X.w) X.A (exec st X.env) (SP X [] D) X.xe s
def PSs0 (X:Cx) (st:List Stmt) (t:TS):Prop:=∀ (s:Shared) (σ:St) (H:Hp) (D:Ends),Inv X [] σ H s→t D σ H→wpAny (model X.prog X.w) X.A (execs st X.env) (SP X [] D) X.xe s
theorem PS.ps0 {X:Cx} {st:Stmt} {t:TS} (h:PS X st t):PS0 X st t:=h []
theorem PSs.ps0 {X:Cx} {st:List Stmt} {t:TS} (h:PSs X st t):PSs0 X st t:=h []
theorem zqt {X:Cx} {st:Stmt} {rest:List Stmt} {t u:TS} (h1:PS0 X st t) (h2:PSs0 X rest u):PSs0 X (st :: rest) (tSeq t u):=by
 intro s σ H D I h
 refine wpAny_execs_cons (thn (h1 s σ H { D with nx:=u D } I h) fun f s1 q=>?_)
 cases f with
 | next =>
  obtain ⟨σ',H',I',q⟩:=q
  exact h2 s1 σ' H' D I' q
 | brk=>exact q
 | cont=>exact q
 | ret u=>exact q
end L2
namespace L2
open PySem PySem.Spec PyProof.Rows
abbrev TH:=Addr→Value→Option Addr→TS
def PH (X:Cx) (hs:List ExceptHandler) (th:TH):Prop:=∀ (s:Shared) (σ:St) (H:Hp) (D:Ends) (x:Addr) (cls:Value) (dx:Option Addr),Inv X [] σ H s→ExAt X.s₀.heap s.heap H x cls dx true→th x cls dx D σ H →
 wpAny (model X.prog X.w) X.A (handleBy (.ref x) X.env hs) (SP X [] D) X.xe s
def tNoH:TH:=fun _ _ _ _ _ _=>False
theorem zvf {X:Cx}:PH X [] tNoH:=fun _ _ _ _ _ _ _ _ _ h=>h.elim
def Ends.drop (D:Ends) (i:Nat):Ends:=⟨fun σ H=>D.nx (σ.set i none) H,D.rt,fun σ H=>D.bk (σ.set i none) H,fun σ H=>D.ct (σ.set i none) H⟩
def tH (K:PySem.W.Frag) (C:Addr) (i:Nat) (ts th:TH):TH:=fun x cls dx D σ H=>∃ E b,cls = .ref E∧PySem.W.subIn K (.ref E) (.ref C)=some b ∧
 if b=true then ts x cls dx (D.drop i) (σ.set i (some (.ref x))) H else th x cls dx D σ H
section
variable {X:Cx} {C:Addr} {i:Nat} {n y:Str} {np pos:Pos} {b₀:Stmt} {suite:List Stmt} {rest:List ExceptHandler} {ts th:TH}
def tTry (tb:WX→TS) (th:TH):TS:=fun D σ H=>tb (fun σ' cls dx H'=>∀ x,H' x=none→th x cls dx D σ' H') D σ H
theorem zuC {h0:ExceptHandler} {hs:List ExceptHandler} {body:List Stmt} {tb:WX→TS} (t:Top1 X) (hx:X.ex=[]) (hb:∀ W,PSs0 (X.wish (XE X W)) body (tb W)) (hh:PH X (h0 :: hs) th):PS0 X (.Try body (h0 :: hs) [] [] pos) (tTry tb th):=by
 intro s σ H D I h
 refine wpAny_Try_except (wpAny_mono (hb _ s σ H D (I.wish _) h) (fun f s1 q=>?_) fun e s1 q=>?_)
 ·have q:=q.zet
  cases f with
  | next =>
   obtain ⟨σ',H',I',q⟩:=q
   exact wpAny_execs_nil ⟨σ',H',I',q⟩
  | brk=>exact q
  | cont=>exact q
  | ret u=>exact q
 ·obtain ⟨σ',H',x,cls,dx,rfl,I',ex,q⟩:=q
  refine zmS I' t ex fun h1 I1 e1=>zg1 I1 t e1 fun h2 I2 e2=>?_
  exact hh _ σ' H' D x cls dx I2 e2 (q x e2.2.1)
end
section
variable {P:Program} {w:World} {K:PySem.W.Frag} {mg:Str→Option Value} {base:Heap}
theorem zvo {CX:CXT} {k:Nat} {f:Addr} {name qual:Str} {params:Arguments} {body:List Stmt} {scope:Scope} {dV kV doc pm cdv ct oc:Value} {an od:Option Addr}
  {osl:Array (Option Value)} {N ps:List Str} {sp:Sp} (lk:K.lookup f=some ⟨oc,od, .func (PySem.W.fnOf name qual params body scope dV kV doc pm an cdv ct),osl⟩) (hcd:PySem.W.codeIn K cdv qual=true) (S:zaz N ps scope)
  (len:∀ vs H Q E,sp vs H Q E→vs.length=ps.length)
  (hbody:∀ (A:Around) (outer:List Env) (s:Shared) (H:Hp) (vs:List V) (Q:VK) (E:XK),Room k (A.deeper (envOfC qual scope s.heap.objs.size f cdv))→sp vs H Q E →
   ∃ t,PSs0 (cxOf CX P w K mg base N qual scope f cdv A outer s H E) body t∧t { nx:=fun _ H'=>Q .non H',rt:=Q } (start N vs) H) :
  FnOk P w K mg base CX (k + 1) f (PySem.W.fnOf name qual params body scope dV kV doc pm an cdv ct) ps sp:=by
 refine ⟨len,fun A outer s H args us vs Q E hr e0 hb r hsp=>?_⟩
 have hl:=len _ _ _ _ hsp
 have KX:K.In s.heap:=e0.mod.kin.keeps fun b o e=>(e0.bs b o e).1
 have lim:s.heap.NoLimit:=e0.mod.nolimit.keeps fun b o e=>(e0.bs b o e).1
 have hkind:∀ y ∈ ps.zip us,scope.names.lookup y.1=some .local∨(scope.names.lookup y.1=some .cell∧((cellsFrom (s.heap.objs.size + 1) scope.names []).lookup y.1).isSome=true):=fun ⟨n,v⟩ hy=>by
  rcases S.par n (List.of_mem_zip hy).1 with q | q
  ·exact .inl q
  ·exact .inr ⟨q,PySem.W.cellsFrom_some _ _ _ (.inl q)⟩
 refine codeAny_call_function hr.depth (KX _ _ lk) rfl S.co S.gen rfl (PySem.W.codeRec_of KX hcd) (hb _ _ _ _ ?_)
 refine wpAny_newFunctionEnv_cells S.kind hkind fun env he s1 x=>?_
 subst he
 refine ⟨lim.keeps x.toInCall.keep,codeAny_func ?_⟩
 obtain ⟨t,ht,hq⟩:=hbody A outer s H vs Q E (hr.deeper _) hsp
 have I:Inv (cxOf CX P w K mg base N qual scope f cdv A outer s H E) [] (start N vs) H s1:=zgT S hr.hd e0 hl r x
 refine wpAny_mono (ht s1 (start N vs) H _ I hq) (fun fl s' hs=>?_) fun e s' hs=>hs
 have fin:∀ {σ':St} {H':Hp} {v:V} {u:Value},Inv (cxOf CX P w K mg base N qual scope f cdv A outer s H E) [] σ' H' s'→RelV v u→Q v H'→CE outer P w H s Q u s' :=
  fun {σ' H' v u} J rv q=>⟨v,H',J.os,J.bare,J.base,J.hok,rv,q⟩
 cases fl with
 | ret u =>
  obtain ⟨v,σ',H',J,rv,q⟩:=hs
  exact fin J rv q
 | next =>
  obtain ⟨σ',H',J,q⟩:=hs
  exact fin (v:=V.non) (u:=Value.none) J rfl q
 | brk =>
  obtain ⟨_,_,_,q⟩:=hs
  exact False.elim q
 | cont =>
  obtain ⟨_,_,_,q⟩:=hs
  exact False.elim q
theorem PSs0.nox {X:Cx} {st:List Stmt} {t:TS} (h:PSs0 X.nox st t):PSs0 X st t:=fun s σ H D I hw =>
 wpAny_mono (h s σ H D (I.wish _) hw) (fun _ _ q=>q.zet) fun _ _ z=>False.elim z
theorem Def.of0 {x:Str} {st:Stmt} {N ps:List Str} {k:Nat} {sp:Sp} (h:HasFn K mg x st) (S:zaz N ps (zae st))
  (bind:∀ (kV doc pm:Value) (an:Option Addr) (cdv ct:Value) (us:List Value),us.length=ps.length→bindArgs (PySem.W.fnOf x x (zax st) (zap st) (zae st) .none kV doc pm an cdv ct) ⟨us,[]⟩ = pure (ps.zip us))
  (len:∀ vs H Q E,sp vs H Q E→vs.length=ps.length)
  (hbody:∀ (f:Addr) (cdv:Value) (A:Around) (outer:List Env) (s:Shared) (H:Hp) (vs:List V) (Q:VK) (E:XK),Room k (A.deeper (envOfC x (zae st) s.heap.objs.size f cdv))→sp vs H Q E →
   ∃ t,PSs0 (cxOf CX0 P w K mg base N x (zae st) f cdv A outer s H E).nox (zap st) t∧t { nx:=fun _ H'=>Q .non H',rt:=Q } (start N vs) H):Def P w K mg base x (k + 1) ps sp:=by
 obtain ⟨f,fd,hm,F⟩:=h.ex
 refine ⟨f,fd,?_,hm,F.kp,F.binds bind⟩
 obtain ⟨oc,od,kV,doc,pm,an,cdv,ct,osl,rfl,lk,hcd⟩:=F.ex
 refine zvo lk hcd S len fun A outer s H vs Q E hr hsp=>?_
 obtain ⟨t,h,q⟩:=hbody f cdv A outer s H vs Q E hr hsp
 exact ⟨t,h.nox,q⟩
end
end L2
namespace L2
open PySem PySem.Spec PyProof.Rows
def zuz (scope sc:Scope) (N:List Str) (js:List Nat):Bool :=
 scope.kind == .function && (scope.names.all fun y=>y.2 != .cell && (y.2 != .local || scope.names.lookup y.1 == some .local) && (y.2 != .free || (sc.names.lookup y.1 == some .cell || sc.names.lookup y.1 == some .free))) &&
 js.all fun j=>match N[j]? with
  | some x=>scope.names.lookup x == some .free
  | none=>false
theorem LcOk.of {X:Cx} {scope:Scope} {ls:List Str} {js:List Nat} (sc:Scope) (N:List Str) (hsc:X.env.scope=sc) (hN:X.N=N) (ok:zuz scope sc N js=true):LcOk X scope ls js:=by
 unfold zuz at ok
 rw [Bool.and_eq_true,Bool.and_eq_true] at ok
 obtain ⟨⟨h1,h2⟩,h3⟩:=ok
 rw [List.all_eq_true] at h2 h3
 refine ⟨by simpa using h1,fun y hy=>?_,fun y hy hl=>?_,fun y hy hf=>?_,fun j hj=>?_⟩
 ·have q:=h2 y hy
  rw [Bool.and_eq_true,Bool.and_eq_true] at q
  simpa using q.1.1
 ·have q:=h2 y hy
  rw [Bool.and_eq_true,Bool.and_eq_true] at q
  simpa [hl] using q.1.2
 ·have q:=h2 y hy
  rw [Bool.and_eq_true,Bool.and_eq_true] at q
  have q2:=q.2
  rw [hf] at q2
  unfold Env.kindOf
  rw [hsc]
  simpa using q2
 ·have q:=h3 j hj
  rw [hN]
  cases e:N[j]? with
  | none=>rw [e] at q;cases q
  | some x=>rw [e] at q;exact ⟨x,rfl,by simpa using q⟩
theorem Kept.same {l:Addr} {H H':Hp} (e:Kept l H H') (hl:H l=none):Same H H':=fun b o h=>e b o (zaW h hl) h
end L2
namespace L2
open PySem PySem.Spec PyProof.Rows
end L2
namespace L2
open PySem PySem.Spec PyProof.Rows
section
variable {X:Cx}
theorem zkZ (hc:X.calm=true):zeR X (.builtin "sorted") (fun xs H Q=>∃ d kvs ks,xs=[.ref d]∧H d=some (.dK kvs)∧kvs.map (·.1)=ks.map Sum.inl∧ks.length < 64 ∧
  ∀ (ms:List Int) (l:Addr),ms.Perm ks→ms.Pairwise (· ≤ ·)→H l=none→Q (.ref l) (upd H l (.lst (ms.map V.int)))):=by
 intro pins s σ H xs us Q I r h
 obtain ⟨d,kvs,ks,rfl,hd,hk,h64,q⟩:=h
 obtain ⟨u,rfl,ru⟩:=vals1 r
 cases ru
 obtain ⟨z,lo,vs,rel,dd⟩:=zpR I.hok hd
 obtain ⟨ep,hat⟩:=dd.dictAt
 have hlv:vs.length=ks.length:=by
  rw [← rel.length,← List.length_map (f:=(·.1)),hk,List.length_map]
 have hsz:(64:Nat) ≤ sizeLine:=by decide
 refine Calls.call_function_entry kind_sorted plain_sorted entry_sorted (args_sorted1 _) ?_
 unfold Builtin.«sorted»
 refine wpAny_bind (m:=checkCount "sorted" 1 1 _) (wpAny_pure ?_)
 refine wpAny_bind (PySem.W.kdu_collect (A:=X.A.in1) (PySem.W.kdl_dict (knd:=zbi X.prog X.w) (kvs:=vs) (ep:=ep) lo) (I.ok.hd hc) hat (by omega) fun h' tk acc hkp hacc=>?_)
 have hl:acc.toList.length=ks.length:=by rw [Array.length_toList,hacc.1,hlv]
 have hI:IntsAre acc.toList ks:=by
  refine intsAre_of (ns:=ks) ?_
  have key:∀ (js:List Int) (us:List Value),us.length=js.length→(∀ (i:Nat) (v:Value),us[i]? = some v→∃ (j:Int) (t:Tok),js[i]? = some j∧v=Value.int j t)→Vals (js.map V.int) us:=by
   intro js
   induction js with
   | nil=>intro us hl _;cases us with
    | nil=>exact .nil
    | cons _ _=>simp at hl
   | cons j js ih =>
    intro us hl hv
    cases us with
    | nil=>simp at hl
    | cons v us =>
     obtain ⟨j',t,e1,e2⟩:=hv 0 v rfl
     cases e1
     exact .cons ⟨t,e2⟩ (ih us (by simpa using hl) fun i w hw=>hv (i + 1) w (by simpa using hw))
  refine key ks acc.toList hl fun i v hv=>?_
  obtain ⟨k,x,e1,e2⟩:=hacc.2 i v (by rw [← Array.getElem?_toList];exact hv)
  have e3:(vs.map (·.1))[i]? = some k:=by rw [List.getElem?_map,e1];rfl
  rw [← rel.keys,hk,List.getElem?_map] at e3
  cases e4:ks[i]? with
  | none=>rw [e4] at e3;cases e3
  | some j =>
   rw [e4] at e3
   have e5:(Sum.inl j:Key)=k:=Option.some.inj e3
   subst e5
   rcases zbn (k:=Sum.inl j) (v:=v) e2 with ⟨i',t,q1,q2⟩ | ⟨_,_,q1,_⟩
   ·cases q1;exact ⟨j,t,rfl,q2⟩
   ·cases q1
 refine wpAny_bind (wpAny_newList ?_ (by rw [hl];omega))
 have hoL:(h'.push (seqObj "list" acc.toList.toArray 0)).get? h'.objs.size=some (seqObj "list" acc.toList.toArray 0):=Heap.get?_push_size _ rfl
 refine wpAny_bind (wpAny_holding (wpAny_call_entry slot_list_sort ⟨_,hoL,rfl⟩ entry_list_sort (list_sort_tree hoL hI (by omega) fun out ns' a1 a2 a3=>⟨_,rfl,?_⟩) (args_list_sort _)))
 refine wpAny_pure ⟨_,rfl,?_⟩
 have I1:Inv X pins σ H { s with heap:=h',toks:=tk }:=I.kept hkp
 have hf:H h'.objs.size=none:=I1.hok.fresh (Nat.le_refl _)
 obtain ⟨e1,ho1⟩ : ∃ e1,((h'.push (seqObj "list" acc.toList.toArray 0)).update h'.objs.size (Obj.mapSeq fun _=>#[])).get? h'.objs.size=some (seqObj "list" #[] e1):=⟨_,get?_update_seq hoL (fun _=>#[])⟩
 have ho2:=Heap.get?_push_of_some (seqObj "list" #[] 0) (Heap.get?_push_of_some (seqObj "tuple" acc.toList.toArray 0) ho1)
 obtain ⟨e2,ho3⟩ : ∃ e2,(sortedHeap (h'.push (seqObj "list" acc.toList.toArray 0)) h'.objs.size acc.toList out).get? h'.objs.size=some (seqObj "list" out e2):=⟨_,get?_update_seq ho2 (fun _=>out)⟩
 have kp:∀ b u,h'.get? b=some u→(sortedHeap (h'.push (seqObj "list" acc.toList.toArray 0)) h'.objs.size acc.toList out).get? b=some u:=fun b u e=>by
  have hb:b ≠ h'.objs.size:=Nat.ne_of_lt (Heap.lt_size e)
  unfold sortedHeap
  exact (Heap.get?_update_other _ _ (Ne.symm hb)).trans (Heap.get?_push_of_some _ (Heap.get?_push_of_some _ ((Heap.get?_update_other _ _ (Ne.symm hb)).trans (Heap.get?_push_of_some _ e))))
 have hv:Vals (ns'.map V.int) out.toList:=ziz a1
 have hln:ns'.length=ks.length:=a2.length_eq
 refine ⟨.ref h'.objs.size,upd H h'.objs.size (.lst (ns'.map V.int)),I1.laid (t':=tk) kp (Nat.le_refl _) ?_,rfl,q ns' _ a2 a3 hf⟩
 exact ⟨by rw [List.length_map];omega,out.toList,e2,hv,ho3⟩
end
end L2
namespace L2
open PySem PySem.Spec PyProof.Rows
section
variable {X:Cx}
end
theorem Rows.take {K:PySem.W.Frag} {H:Hp}:∀ {xs:List V} {rs:List (List Int)} (k:Nat),Rows K H xs rs→Rows K H (xs.take k) (rs.take k)
 | _,_,0,_ => .nil
 | _,_,_ + 1, .nil => .nil
 | _,_,k + 1, .cons q t => .cons q (Rows.take k t)
theorem Rows.append {K:PySem.W.Frag} {H:Hp}:∀ {xs ys:List V} {rs qs:List (List Int)},Rows K H xs rs→Rows K H ys qs→Rows K H (xs ++ ys) (rs ++ qs)
 | _,_,_,_, .nil,h=>h
 | _,_,_,_, .cons q t,h => .cons q (Rows.append t h)
end L2
namespace V2
open PySem PySem.Spec PyProof.Rows L2
inductive A where
 | int (i:Int) | bl (b:Bool) | str (x:Str) | non | ty (n:String) | adr (p:Addr) | exn (p d:Addr) (f:Str) (i:Int) | gl (x:Str) | scr (ns:List Int)
 | tup (ds:List A) | lst (ds:List A) | cel (k:Nat)
inductive Cell where
 | lst (ds:List A) | dct (kvs:List (Key × A)) | ins (C:Addr) (fs:List (Str × A)) | tab (x:Str) (pos:Pos) (qual:Str) | dead
structure Exc where
 cls:Str
 fs:List (Str × A)
inductive Rs (α:Type) where
 | ok (a:α) | exc (x:Exc)
abbrev Sto:=List Cell
abbrev Ev:=List (Option A)
abbrev Mo (α:Type):=Sto→Option (Rs α × Sto)
@[simp] def ret {α:Type} (a:α):Mo α:=fun Ω=>some (.ok a,Ω)
@[simp] def mb {α β:Type} (m:Mo α) (k:α→Mo β):Mo β:=fun Ω =>
 match m Ω with
 | some (.ok a,Ω1)=>k a Ω1
 | some (.exc x,Ω1)=>some (.exc x,Ω1)
 | none=>none
@[simp] def stuck {α:Type}:Mo α:=fun _=>none
@[simp] def need {α:Type} (o:Option α):Mo α:=fun Ω=>o.map fun a=>(.ok a,Ω)
@[simp] def chk (p:Prop) [Decidable p] : Mo Unit:=fun Ω=>if p then some (.ok (),Ω) else none
mutual
def Den (K:PySem.W.Frag) (G:Hp) (ι:List Addr):V→A→Prop
 | v, .int j=>v = .int j
 | v, .bl b=>v = .bl b
 | v, .str x=>v = .str x
 | v, .non=>v = .non
 | v, .ty n=>v = .ty n
 | v, .adr p=>v = .ref p
 | v, .exn p d f i=>v = .ref p∧G d=some (.xd [(f, .int i)])
 | v, .gl x=>∃ C,PySem.W.nsIn K mainGlobals x=some (some (.ref C))∧v = .ref C
 | v, .scr ns=>∃ a,v = .ref a∧SqL K G a (ns.map V.int)
 | v, .tup ds=>∃ a xs,v = .ref a∧G a=some (.tup xs)∧DenL K G ι xs ds
 | v, .lst ds=>∃ a xs,v = .ref a∧G a=some (.lst xs)∧DenL K G ι xs ds
 | v, .cel k=>∃ a,v = .ref a∧ι[k]? = some a
def DenL (K:PySem.W.Frag) (G:Hp) (ι:List Addr):List V→List A→Prop
 | xs,[]=>xs=[]
 | xs,d :: ds=>∃ x r,xs=x :: r∧Den K G ι x d∧DenL K G ι r ds
end
structure Ext (G:Hp) (ι:List Addr) (G':Hp) (ι':List Addr):Prop where
 same:Same G G'
 pre:∀ (k:Nat) (a:Addr),ι[k]? = some a→ι'[k]? = some a
theorem Ext.refl (G:Hp) (ι:List Addr):Ext G ι G ι:=⟨Same.refl _,fun _ _ h=>h⟩
theorem Ext.trans {G G1 G2:Hp} {ι ι1 ι2:List Addr} (a:Ext G ι G1 ι1) (b:Ext G1 ι1 G2 ι2):Ext G ι G2 ι2:=⟨a.same.trans b.same,fun k x h=>b.pre k x (a.pre k x h)⟩
section
variable {K:PySem.W.Frag} {G G':Hp} {ι ι':List Addr}
mutual
theorem Den.ext (e:Ext G ι G' ι'):∀ {v:V} {d:A},Den K G ι v d→Den K G' ι' v d
 | _, .int _,h=>by simpa only [Den] using h
 | _, .bl _,h=>by simpa only [Den] using h
 | _, .str _,h=>by simpa only [Den] using h
 | _, .non,h=>by simpa only [Den] using h
 | _, .ty _,h=>by simpa only [Den] using h
 | _, .adr _,h=>by simpa only [Den] using h
 | _, .exn _ _ _ _,h=>by
  simp only [Den] at h ⊢
  exact ⟨h.1,e.same _ _ h.2⟩
 | _, .gl _,h=>by simpa only [Den] using h
 | _, .scr _,h=>by
  simp only [Den] at h ⊢
  obtain ⟨a,h1,h2⟩:=h
  exact ⟨a,h1,e.same.seq h2⟩
 | _, .tup ds,h=>by
  simp only [Den] at h ⊢
  obtain ⟨a,xs,h1,h2,h3⟩:=h
  exact ⟨a,xs,h1,e.same _ _ h2,DenL.ext e h3⟩
 | _, .lst ds,h=>by
  simp only [Den] at h ⊢
  obtain ⟨a,xs,h1,h2,h3⟩:=h
  exact ⟨a,xs,h1,e.same _ _ h2,DenL.ext e h3⟩
 | _, .cel k,h=>by
  simp only [Den] at h ⊢
  obtain ⟨a,h1,h2⟩:=h
  exact ⟨a,h1,e.pre _ _ h2⟩
theorem DenL.ext (e:Ext G ι G' ι'):∀ {xs:List V} {ds:List A},DenL K G ι xs ds→DenL K G' ι' xs ds
 | _,[],h=>by simpa only [DenL] using h
 | _,d :: ds,h=>by
  simp only [DenL] at h ⊢
  obtain ⟨x,r,h1,h2,h3⟩:=h
  exact ⟨x,r,h1,Den.ext e h2,DenL.ext e h3⟩
end
theorem zbh {xs:List V}:DenL K G ι xs []↔xs=[]:=by simp only [DenL]
theorem DenL.length:∀ {xs:List V} {ds:List A},DenL K G ι xs ds→xs.length=ds.length
 | _,[],h=>by simp only [DenL] at h;subst h;rfl
 | _,d :: ds,h=>by
  simp only [DenL] at h
  obtain ⟨x,r,rfl,h2,h3⟩:=h
  simp only [List.length_cons,DenL.length h3]
theorem DenL.nil:DenL K G ι [] []:=by simp only [DenL]
theorem DenL.cons {x:V} {xs:List V} {d:A} {ds:List A} (h:Den K G ι x d) (t:DenL K G ι xs ds):DenL K G ι (x :: xs) (d :: ds):=by
 simp only [DenL];exact ⟨x,xs,rfl,h,t⟩
theorem DenL.zcn {xs:List V} {d:A} {ds:List A} (h:DenL K G ι xs (d :: ds)):∃ x r,xs=x :: r∧Den K G ι x d∧DenL K G ι r ds:=by simpa only [DenL] using h
theorem DenL.get:∀ {xs:List V} {ds:List A} {i:Nat} {d:A},DenL K G ι xs ds→ds[i]? = some d→∃ x,xs[i]? = some x∧Den K G ι x d
 | _,[],_,_,_,e=>by simp at e
 | _,_ :: _,0,_,h,e=>by
  obtain ⟨x,r,rfl,h2,h3⟩:=h.zcn
  simp at e;subst e;exact ⟨x,rfl,h2⟩
 | _,_ :: _,i + 1,_,h,e=>by
  obtain ⟨x,r,rfl,h2,h3⟩:=h.zcn
  simp at e
  obtain ⟨y,q1,q2⟩:=DenL.get h3 e
  exact ⟨y,by simpa using q1,q2⟩
theorem DenL.append:∀ {xs ys:List V} {ds es:List A},DenL K G ι xs ds→DenL K G ι ys es→DenL K G ι (xs ++ ys) (ds ++ es)
 | _,_,[],_,h,t=>by rw [zbh] at h;subst h;exact t
 | _,_,d :: ds,_,h,t=>by
  obtain ⟨x,r,rfl,h2,h3⟩:=h.zcn
  exact .cons h2 (DenL.append h3 t)
theorem DenL.take:∀ {xs:List V} {ds:List A} (n:Nat),DenL K G ι xs ds→DenL K G ι (xs.take n) (ds.take n)
 | _,_,0,_=>by simpa using DenL.nil
 | _,[],n + 1,h=>by rw [zbh] at h;subst h;exact DenL.nil
 | _,d :: ds,n + 1,h=>by
  obtain ⟨x,r,rfl,h2,h3⟩:=h.zcn
  exact .cons h2 (DenL.take n h3)
theorem DenL.drop:∀ {xs:List V} {ds:List A} (n:Nat),DenL K G ι xs ds→DenL K G ι (xs.drop n) (ds.drop n)
 | _,_,0,h=>by simpa using h
 | _,[],n + 1,h=>by rw [zbh] at h;subst h;exact DenL.nil
 | _,d :: ds,n + 1,h=>by
  obtain ⟨x,r,rfl,h2,h3⟩:=h.zcn
  exact DenL.drop n h3
theorem DenL.set {x:V} {d:A} (hx:Den K G ι x d):∀ {xs:List V} {ds:List A} (n:Nat),DenL K G ι xs ds→DenL K G ι (xs.set n x) (ds.set n d)
 | _,[],n,h=>by rw [zbh] at h;subst h;exact DenL.nil
 | _,e :: ds,0,h=>by
  obtain ⟨y,r,rfl,h2,h3⟩:=h.zcn
  exact .cons hx h3
 | _,e :: ds,n + 1,h=>by
  obtain ⟨y,r,rfl,h2,h3⟩:=h.zcn
  exact .cons h2 (DenL.set hx n h3)
theorem zgO:∀ (ns:List Int),DenL K G ι (ns.map V.int) (ns.map A.int)
 | [] => .nil
 | n :: ns => .cons (by simp only [Den]) (zgO ns)
end
def zv3 (K:PySem.W.Frag) (G H:Hp) (a:Addr) (x:Str) (pos:Pos) (qual:Str):Prop :=
 G a=none∧(∃ c,PySem.W.tabIn K x=some (c,a))∧∃ ps,H a=some (.tbl ps)∧TriplesOk ps.toList ∧
  (codeAmong pos ps.toList=none∨∃ c' oc vs t,codeAmong pos ps.toList=some (.ref c')∧G c'=some (.frz oc (.own 0))∧oc.data = .fields vs∧vs[1]? = some (.str qual t))
def zjw (K:PySem.W.Frag) (G:Hp) (ι:List Addr) (H:Hp) (a:Addr):Cell→Prop
 | .lst ds=>G a=none∧∃ xs,H a=some (.lst xs)∧DenL K G ι xs ds
 | .dct kvs=>G a=none∧∃ ws:List (Key × V),H a=some (.dK ws)∧ws.map (·.1)=kvs.map (·.1)∧DenL K G ι (ws.map (·.2)) (kvs.map (·.2))
 | .ins C fs=>G a=none∧∃ dx,∃ ws:List (Str × V),H a=some (.ins C dx ws)∧ws.map (·.1)=fs.map (·.1)∧DenL K G ι (ws.map (·.2)) (fs.map (·.2))
 | .tab x pos qual=>zv3 K G H a x pos qual
 | .dead=>True
structure Wd (K:PySem.W.Frag) (G:Hp) (ι:List Addr) (Ω:Sto) (H:Hp):Prop where
 sub:Same G H
 inj:ι.Nodup
 len:ι.length=Ω.length
 live:∀ a ∈ ι,∃ o,H a=some o
 cel:∀ (k:Nat) (c:Cell) (a:Addr),Ω[k]? = some c→ι[k]? = some a→zjw K G ι H a c
section
variable {K:PySem.W.Frag} {G G' H H':Hp} {ι ι':List Addr} {Ω:Sto} {a p:Addr}
theorem zjw.mono {c:Cell} (h:zjw K G ι H a c) (e:Ext G ι G' ι') (hg:G' a=G a) (hh:H' a=H a):zjw K G' ι' H' a c:=by
 cases c with
 | lst ds=>obtain ⟨g,xs,h1,h2⟩:=h;exact ⟨hg.trans g,xs,hh.trans h1,h2.ext e⟩
 | dct kvs=>obtain ⟨g,ws,h1,h2,h3⟩:=h;exact ⟨hg.trans g,ws,hh.trans h1,h2,h3.ext e⟩
 | ins C fs=>obtain ⟨g,dx,ws,h1,h2,h3⟩:=h;exact ⟨hg.trans g,dx,ws,hh.trans h1,h2,h3.ext e⟩
 | tab x pos qual =>
  obtain ⟨g,hc,ps,h1,h2,h3⟩:=h
  exact ⟨hg.trans g,hc,ps,hh.trans h1,h2,h3.imp id fun ⟨c',oc,vs,t,q1,q2,q3⟩=>⟨c',oc,vs,t,q1,e.same _ _ q2,q3⟩⟩
 | dead=>trivial
theorem Wd.ne (w:Wd K G ι Ω H) (hp:H p=none) (ha:a ∈ ι):a ≠ p:=by
 obtain ⟨o,ho⟩:=w.live a ha
 exact zaW ho hp
theorem Wd.zhS (w:Wd K G ι Ω H) (hp:H p=none):G p=none:=by
 cases e:G p with
 | none=>rfl
 | some o=>rw [w.sub _ _ e] at hp;cases hp
theorem Wd.grow (w:Wd K G ι Ω H) (s:Same H H'):Wd K G ι Ω H' where
 sub:=w.sub.trans s
 inj:=w.inj
 len:=w.len
 live:=fun a ha=>let ⟨o,ho⟩:=w.live a ha; ⟨o,s _ _ ho⟩
 cel:=fun k c a h1 h2=>by
  have q:=w.cel k c a h1 h2
  cases c with
  | lst ds=>obtain ⟨g,xs,h1,h2⟩:=q;exact ⟨g,xs,s _ _ h1,h2⟩
  | dct kvs=>obtain ⟨g,ws,h1,h2,h3⟩:=q;exact ⟨g,ws,s _ _ h1,h2,h3⟩
  | ins C fs=>obtain ⟨g,dx,ws,h1,h2,h3⟩:=q;exact ⟨g,dx,ws,s _ _ h1,h2,h3⟩
  | tab x pos qual =>
   obtain ⟨g,hc,ps,h1,h2⟩:=q
   exact ⟨g,hc,ps,s _ _ h1,h2⟩
  | dead=>trivial
theorem ziB {α:Type}:∀ {l:List α} {i j:Nat} {x:α},l.Nodup→l[i]? = some x→l[j]? = some x→i=j
 | [],_,_,_,_,h,_=>by simp at h
 | y :: l,0,0,_,_,_,_=>rfl
 | y :: l,0,j + 1,x,n,h1,h2=>by
  simp at h1 h2;subst h1
  exact absurd (List.mem_of_getElem? h2) (List.nodup_cons.mp n).1
 | y :: l,i + 1,0,x,n,h1,h2=>by
  simp at h1 h2;subst h2
  exact absurd (List.mem_of_getElem? h1) (List.nodup_cons.mp n).1
 | y :: l,i + 1,j + 1,x,n,h1,h2=>by
  simp at h1 h2
  rw [ziB (List.nodup_cons.mp n).2 h1 h2]
theorem zjI {α:Type} {l:List α} {k:Nat} {x:α} (h:l[k]? = some x):x ∈ l:=List.mem_of_getElem? h
theorem Ext.new (hp:G p=none) (o:HO):Ext G ι (upd G p o) ι:=⟨Same.new hp,fun _ _ h=>h⟩
theorem Wd.new (w:Wd K G ι Ω H) (hp:H p=none) (o:HO):Wd K (upd G p o) ι Ω (upd H p o) where
 sub:=fun b u h=>by
  by_cases e:b=p
  ·subst e;rw [zaI] at h ⊢;exact h
  ·rw [zat e] at h ⊢;exact w.sub _ _ h
 inj:=w.inj
 len:=w.len
 live:=fun a ha=>by rw [zat (w.ne hp ha)];exact w.live a ha
 cel:=fun k c a h1 h2=>by
  have n:=w.ne hp (zjI h2)
  exact (w.cel k c a h1 h2).mono (Ext.new (w.zhS hp) o) (zat n) (zat n)
theorem Ext.cell (x:Addr):Ext G ι G (ι ++ [x]):=⟨Same.refl _,fun k a h=>by
 rw [List.getElem?_append_left (List.getElem?_eq_some_iff.mp h).1];exact h⟩
theorem Wd.cell (w:Wd K G ι Ω H) (hp:H p=none) {o:HO} {c:Cell} (hc:zjw K G (ι ++ [p]) (upd H p o) p c):Wd K G (ι ++ [p]) (Ω ++ [c]) (upd H p o) where
 sub:=fun b u h=>by
  have e:b ≠ p:=fun e=>by subst e;rw [w.sub _ _ h] at hp;cases hp
  rw [zat e];exact w.sub _ _ h
 inj:=by
  rw [List.nodup_append]
  exact ⟨w.inj,by simp,fun a ha b hb=>by simp at hb;subst hb;exact w.ne hp ha⟩
 len:=by simp [w.len]
 live:=fun a ha=>by
  rcases List.mem_append.mp ha with h | h
  ·rw [zat (w.ne hp h)];exact w.live a h
  ·simp at h;subst h;exact ⟨o,zaI⟩
 cel:=fun k c' a h1 h2=>by
  by_cases hk:k < ι.length
  ·rw [List.getElem?_append_left hk] at h2
   rw [List.getElem?_append_left (by rw [← w.len];exact hk)] at h1
   exact (w.cel k c' a h1 h2).mono (Ext.cell p) rfl (zat (w.ne hp (zjI h2)))
  ·have hk2:k=ι.length:=by
    have:=(List.getElem?_eq_some_iff.mp h2).1
    simp at this;omega
   subst hk2
   simp at h2;subst h2
   rw [w.len] at h1
   simp at h1;subst h1
   exact hc
theorem Wd.put (w:Wd K G ι Ω H) {k:Nat} {c:Cell} {o:HO} (hk:ι[k]? = some a) (hg:G a=none) (hc:zjw K G ι (upd H a o) a c):Wd K G ι (Ω.set k c) (upd H a o) where
 sub:=fun b u h=>by
  have e:b ≠ a:=fun e=>by subst e;rw [hg] at h;cases h
  rw [zat e];exact w.sub _ _ h
 inj:=w.inj
 len:=by rw [List.length_set];exact w.len
 live:=fun b hb=>by
  by_cases e:b=a
  ·subst e;exact ⟨o,zaI⟩
  ·rw [zat e];exact w.live b hb
 cel:=fun j c' b h1 h2=>by
  by_cases hj:j=k
  ·subst hj
   rw [hk] at h2;cases h2
   have hl:j < Ω.length:=by rw [← w.len];exact (List.getElem?_eq_some_iff.mp hk).1
   rw [List.getElem?_set_self hl] at h1
   cases h1;exact hc
  ·rw [List.getElem?_set_ne (Ne.symm hj)] at h1
   have hne:b ≠ a:=fun e=>by
    subst e
    exact hj (ziB w.inj h2 hk)
   exact (w.cel j c' b h1 h2).mono (Ext.refl _ _) rfl (zat hne)
theorem Wd.freeze (w:Wd K G ι Ω H) {k:Nat} {o:HO} (hk:ι[k]? = some a) (hg:G a=none) (ho:H a=some o):Wd K (upd G a o) ι (Ω.set k .dead) H where
 sub:=fun b u h=>by
  by_cases e:b=a
  ·subst e;rw [zaI] at h;cases h;exact ho
  ·rw [zat e] at h;exact w.sub _ _ h
 inj:=w.inj
 len:=by rw [List.length_set];exact w.len
 live:=w.live
 cel:=fun j c' b h1 h2=>by
  by_cases hj:j=k
  ·subst hj
   have hl:j < Ω.length:=by rw [← w.len];exact (List.getElem?_eq_some_iff.mp hk).1
   rw [List.getElem?_set_self hl] at h1
   cases h1;trivial
  ·rw [List.getElem?_set_ne (Ne.symm hj)] at h1
   have hne:b ≠ a:=fun e=>by
    subst e
    exact hj (ziB w.inj h2 hk)
   exact (w.cel j c' b h1 h2).mono (Ext.new hg o) (zat hne) rfl
end
def EnvR (K:PySem.W.Frag) (G:Hp) (ι:List Addr) (σ:L2.St) (ρ:Ev):Prop:=σ.length=ρ.length∧∀ (i:Nat) (d:A),ρ[i]? = some (some d)→∃ v,σ[i]? = some (some v)∧Den K G ι v d
theorem EnvR.ext {K:PySem.W.Frag} {G G':Hp} {ι ι':List Addr} {σ:L2.St} {ρ:Ev} (r:EnvR K G ι σ ρ) (e:Ext G ι G' ι'):EnvR K G' ι' σ ρ:=⟨r.1,fun i d h=>let ⟨v,h1,h2⟩:=r.2 i d h; ⟨v,h1,h2.ext e⟩⟩
theorem EnvR.set {K:PySem.W.Frag} {G:Hp} {ι:List Addr} {σ:L2.St} {ρ:Ev} (r:EnvR K G ι σ ρ) (j:Nat) {v:V} {d:A} (h:Den K G ι v d):EnvR K G ι (σ.set j (some v)) (ρ.set j (some d)):=by
 refine ⟨by rw [List.length_set,List.length_set];exact r.1,fun i e he=>?_⟩
 by_cases hij:i=j
 ·subst hij
  have hl:i < ρ.length:=by
   have:=(List.getElem?_eq_some_iff.mp he).1
   rwa [List.length_set] at this
  rw [List.getElem?_set_self hl] at he
  cases he
  exact ⟨v,List.getElem?_set_self (by rw [r.1];exact hl),h⟩
 ·rw [List.getElem?_set_ne (Ne.symm hij)] at he ⊢
  exact r.2 i e he
theorem EnvR.unset {K:PySem.W.Frag} {G:Hp} {ι:List Addr} {σ:L2.St} {ρ:Ev} (r:EnvR K G ι σ ρ) (j:Nat) (o:Option V):EnvR K G ι (σ.set j o) (ρ.set j none):=by
 refine ⟨by rw [List.length_set,List.length_set];exact r.1,fun i e he=>?_⟩
 by_cases hij:i=j
 ·subst hij
  have hl:i < ρ.length:=by
   have:=(List.getElem?_eq_some_iff.mp he).1
   rwa [List.length_set] at this
  rw [List.getElem?_set_self hl] at he
  cases he
 ·rw [List.getElem?_set_ne (Ne.symm hij)] at he ⊢
  exact r.2 i e he
def ExcR (K:PySem.W.Frag) (G:Hp) (ι:List Addr) (H:Hp) (x:Exc) (cls:Value) (dx:Option Addr):Prop :=
 (∃ C,PySem.W.nsIn K mainGlobals x.cls=some (some (.ref C))∧cls = .ref C)∧((x.fs=[]∧dx=none)∨∃ d f i,dx=some d∧x.fs=[(f, .int i)]∧G d=some (.xd [(f, .int i)]))
abbrev Rl (α β:Type):=Hp→List Addr→β→α→Prop
def Post {α β:Type} (K:PySem.W.Frag) (rel:Rl α β) (W:WX) (G:Hp) (ι:List Addr) (σ:L2.St) (Q:β→Hp→Prop):Option (Rs α × Sto)→Prop
 | some (.ok a,Ω')=>∀ v H' G' ι',Ext G ι G' ι'→Wd K G' ι' Ω' H'→rel G' ι' v a→Q v H'
 | some (.exc x,Ω')=>∀ cls dx H' G' ι',Ext G ι G' ι'→Wd K G' ι' Ω' H'→ExcR K G' ι' H' x cls dx→W σ cls dx H'
 | none=>False
theorem Post.ext {α β:Type} {K:PySem.W.Frag} {rel:Rl α β} {W:WX} {G G1:Hp} {ι ι1:List Addr} {σ:L2.St} {Q:β→Hp→Prop} {r:Option (Rs α × Sto)} (h:Post K rel W G ι σ Q r) (e:Ext G ι G1 ι1):Post K rel W G1 ι1 σ Q r:=by
 match r,h with
 | some (.ok a,Ω'),h=>exact fun v H' G' ι' x w d=>h v H' G' ι' (e.trans x) w d
 | some (.exc x,Ω'),h=>exact fun cls dx H' G' ι' x w d=>h cls dx H' G' ι' (e.trans x) w d
theorem Post.mb {α β γ δ:Type} {K:PySem.W.Frag} {rel:Rl α β} {rel':Rl γ δ} {W:WX} {G:Hp} {ι:List Addr} {σ:L2.St} {Q:δ→Hp→Prop} {Q1:β→Hp→Prop} {m:Mo α} {k:α→Mo γ} {Ω:Sto} (h:Post K rel' W G ι σ Q (mb m k Ω))
  (hk:∀ a Ω1 v H1 G1 ι1,Ext G ι G1 ι1→Wd K G1 ι1 Ω1 H1→rel G1 ι1 v a→Post K rel' W G1 ι1 σ Q (k a Ω1)→Q1 v H1):Post K rel W G ι σ Q1 (m Ω):=by
 unfold V2.mb at h
 revert h
 generalize m Ω=r
 intro h
 match r,h with
 | some (.ok a,Ω1),h=>exact fun v H1 G1 ι1 x w d=>hk a Ω1 v H1 G1 ι1 x w d (Post.ext h x)
 | some (.exc x,Ω1),h=>exact h
theorem Post.need {α β γ:Type} {K:PySem.W.Frag} {rel':Rl α β} {W:WX} {G:Hp} {ι:List Addr} {σ:L2.St} {Q:β→Hp→Prop} {o:Option γ} {k:γ→Mo α} {Ω:Sto} (h:Post K rel' W G ι σ Q (V2.mb (need o) k Ω)):∃ a,o=some a∧Post K rel' W G ι σ Q (k a Ω):=by
 cases o with
 | none=>exact False.elim h
 | some a=>exact ⟨a,rfl,h⟩
theorem Post.chk {α β:Type} {K:PySem.W.Frag} {rel':Rl α β} {W:WX} {G:Hp} {ι:List Addr} {σ:L2.St} {Q:β→Hp→Prop} {p:Prop} [Decidable p] {k:Unit→Mo α} {Ω:Sto} (h:Post K rel' W G ι σ Q (V2.mb (chk p) k Ω)):p∧Post K rel' W G ι σ Q (k () Ω):=by
 unfold V2.mb V2.chk at h
 by_cases hp:p
 ·rw [if_pos hp] at h;exact ⟨hp,h⟩
 ·rw [if_neg hp] at h;exact False.elim h
def Sim {α β:Type} (K:PySem.W.Frag) (rel:Rl α β) (W:WX) (t:L2.St→Hp→(β→Hp→Prop)→Prop) (f:Ev→Mo α):Prop :=
 ∀ G ι Ω H σ ρ Q,Wd K G ι Ω H→EnvR K G ι σ ρ→Post K rel W G ι σ Q (f ρ Ω)→t σ H Q
def relB:Rl Bool Bool:=fun _ _ b c=>b=c
def VE (X:Cx) (W:WX) (e:Expr) (f:Ev→Mo A):Prop:=∃ t,PE X e t∧Sim X.K (Den X.K) W t f
def VT (X:Cx) (W:WX) (e:Expr) (f:Ev→Mo Bool):Prop:=∃ t,PT X e t∧Sim X.K relB W t f
def VW (X:Cx) (W:WX) (e:Expr) (f:Ev→Mo Bool):Prop:=∃ t,PW X e t∧Sim X.K relB W t f
def VA (X:Cx) (W:WX) (es:List Expr) (f:Ev→Mo (List A)):Prop:=∃ t,PA X es t∧Sim X.K (DenL X.K) W t f
end V2
namespace V2
open PySem PySem.Spec PyProof.Rows L2
section
variable {K:PySem.W.Frag} {G H:Hp} {ι:List Addr} {Ω:Sto} {v:V} {a:A}
def zaG (Ω:Sto):A→Option (List A)
 | .lst ds=>some ds
 | .scr ns=>some (ns.map A.int)
 | .cel k=>match Ω[k]? with
  | some (.lst ds)=>some ds
  | _=>none
 | _=>none
def zbj (Ω:Sto):A→Option (List A)
 | .tup ds=>some ds
 | a=>zaG Ω a
theorem zby (w:Wd K G ι Ω H) (d:Den K G ι v a) {ds:List A} (h:zaG Ω a=some ds):∃ p xs,v = .ref p∧SqL K H p xs∧DenL K G ι xs ds:=by
 cases a with
 | lst es =>
  simp only [zaG,Option.some.injEq] at h;subst h
  simp only [Den] at d
  obtain ⟨p,xs,h1,h2,h3⟩:=d
  exact ⟨p,xs,h1,SqL.of (w.sub _ _ h2),h3⟩
 | scr ns =>
  simp only [zaG,Option.some.injEq] at h;subst h
  simp only [Den] at d
  obtain ⟨p,h1,h2⟩:=d
  exact ⟨p,_,h1,w.sub.seq h2,zgO ns⟩
 | cel k =>
  simp only [zaG] at h
  cases e:Ω[k]? with
  | none=>rw [e] at h;cases h
  | some c =>
   rw [e] at h
   cases c with
   | lst es =>
    simp only [Option.some.injEq] at h;subst h
    simp only [Den] at d
    obtain ⟨p,h1,h2⟩:=d
    obtain ⟨g,xs,h3,h4⟩:=w.cel k _ p e h2
    exact ⟨p,xs,h1,SqL.of h3,h4⟩
   | _=>cases h
 | _=>simp [zaG] at h
theorem zgU (w:Wd K G ι Ω H) (d:Den K G ι v a) {ds:List A} (h:zbj Ω a=some ds):∃ p xs,v = .ref p∧(SqL K H p xs∨SqT K H p xs)∧DenL K G ι xs ds:=by
 cases a with
 | tup es =>
  simp only [zbj,Option.some.injEq] at h;subst h
  simp only [Den] at d
  obtain ⟨p,xs,h1,h2,h3⟩:=d
  exact ⟨p,xs,h1, .inr (SqT.of (w.sub _ _ h2)),h3⟩
 | _ =>
  obtain ⟨p,xs,h1,h2,h3⟩:=zby w d h
  exact ⟨p,xs,h1, .inl h2,h3⟩
theorem znU (w:Wd K G ι Ω H) (d:Den K G ι v a) {ds:List A} (h:zaG Ω a=some ds) (hs:∀ ns,a ≠ .scr ns):∃ p xs,v = .ref p∧H p=some (.lst xs)∧DenL K G ι xs ds:=by
 cases a with
 | lst es =>
  simp only [zaG,Option.some.injEq] at h;subst h
  simp only [Den] at d
  obtain ⟨p,xs,h1,h2,h3⟩:=d
  exact ⟨p,xs,h1,w.sub _ _ h2,h3⟩
 | scr ns=>exact absurd rfl (hs ns)
 | cel k =>
  simp only [zaG] at h
  cases e:Ω[k]? with
  | none=>rw [e] at h;cases h
  | some c =>
   rw [e] at h
   cases c with
   | lst es =>
    simp only [Option.some.injEq] at h;subst h
    simp only [Den] at d
    obtain ⟨p,h1,h2⟩:=d
    obtain ⟨g,xs,h3,h4⟩:=w.cel k _ p e h2
    exact ⟨p,xs,h1,h3,h4⟩
   | _=>cases h
 | _=>simp [zaG] at h
end
@[simp] def mkL (c:Bool) (ds:List A):Mo A:=fun Ω=>if c then some (.ok (.cel Ω.length),Ω ++ [.lst ds]) else some (.ok (.lst ds),Ω)
section
variable {K:PySem.W.Frag} {G H:Hp} {ι:List Addr} {Ω:Sto} {W:WX} {σ:L2.St} {Q:VK}
theorem zgP {c:Bool} {ds:List A} {xs:List V} {p:Addr} (w:Wd K G ι Ω H) (hp:H p=none) (d:DenL K G ι xs ds) (h:Post K (Den K) W G ι σ Q (mkL c ds Ω)):Q (.ref p) (upd H p (.lst xs)):=by
 cases c with
 | true =>
  refine h _ _ G (ι ++ [p]) (Ext.cell p) (w.cell hp ⟨w.zhS hp,xs,zaI,d.ext (Ext.cell p)⟩) ?_
  simp only [Den]
  exact ⟨p,rfl,by rw [← w.len];simp⟩
 | false =>
  refine h _ _ _ _ (Ext.new (w.zhS hp) (.lst xs)) (w.new hp _) ?_
  simp only [Den]
  exact ⟨p,xs,rfl,zaI,d.ext (Ext.new (w.zhS hp) _)⟩
@[simp] def mkT (ds:List A):Mo A:=ret (.tup ds)
theorem zph {ds:List A} {xs:List V} {p:Addr} (w:Wd K G ι Ω H) (hp:H p=none) (d:DenL K G ι xs ds) (h:Post K (Den K) W G ι σ Q (mkT ds Ω)):Q (.ref p) (upd H p (.tup xs)):=by
 refine h _ _ _ _ (Ext.new (w.zhS hp) (.tup xs)) (w.new hp _) ?_
 simp only [Den]
 exact ⟨p,xs,rfl,zaI,d.ext (Ext.new (w.zhS hp) _)⟩
theorem zbN {α β:Type} {rel:Rl α β} {Q:β→Hp→Prop} {a:α} {b:β} (w:Wd K G ι Ω H) (d:rel G ι b a) (h:Post K rel W G ι σ Q (ret a Ω)):Q b H:=h b H G ι (Ext.refl _ _) w d
end
section
variable {X:Cx} {W:WX} {e a b:Expr} {es:List Expr} {pos:Pos} {fa fb:Ev→Mo A} {fs:Ev→Mo (List A)}
@[simp] def vVar (i:Nat):Ev→Mo A:=fun ρ=>need (ρ[i]?).join
theorem join_some {α:Type} {o:Option (Option α)} {x:α} (h:o.join=some x):o=some (some x):=by
 cases o with
 | none=>cases h
 | some y=>cases y with
  | none=>cases h
  | some z=>cases h;rfl
theorem ztC {K:PySem.W.Frag} {i:Nat}:Sim K (Den K) W (tVar i) (vVar i):=by
 intro G ι Ω H σ ρ Q w r h
 unfold vVar need at h
 cases e:(ρ[i]?).join with
 | none=>rw [e] at h;exact False.elim h
 | some d =>
  rw [e] at h
  obtain ⟨v,h1,h2⟩:=r.2 i d (join_some e)
  exact ⟨v,h1,h v H G ι (Ext.refl _ _) w h2⟩
theorem vv (i:Nat) {x:Str} (hN:X.N[i]? = some x:=by rfl) (hv:Vis X.env.scope x:=by first | exact Or.inl rfl | exact Or.inr (Or.inl rfl) | exact Or.inr (Or.inr rfl)) (hd:(x == ("__debug__" : Str))=false:=by decide)
  (hcd:(x == ("__classdict__" : Str))=false:=by decide):VE X W (.Name x pos) (vVar i):=⟨_,ziM hN hv hd hcd,ztC⟩
@[simp] def vFrz (i:Nat):Ev→Mo A:=fun ρ Ω=>match (ρ[i]?).join with
 | some (.cel k)=>match Ω[k]? with
  | some (.lst ds)=>some (.ok (.lst ds),Ω.set k .dead)
  | _=>none
 | _=>none
theorem zsP {K:PySem.W.Frag} {i:Nat}:Sim K (Den K) W (tVar i) (vFrz i):=by
 intro G ι Ω H σ ρ Q w r h
 unfold vFrz at h
 cases e:(ρ[i]?).join with
 | none=>rw [e] at h;exact False.elim h
 | some d =>
  rw [e] at h
  cases d with
  | cel k =>
   simp only at h
   cases e2:Ω[k]? with
   | none=>rw [e2] at h;exact False.elim h
   | some c =>
    rw [e2] at h
    cases c with
    | lst ds =>
     obtain ⟨v,h1,h2⟩:=r.2 i _ (join_some e)
     simp only [Den] at h2
     obtain ⟨p,rfl,h4⟩:=h2
     obtain ⟨g,xs,h5,h6⟩:=w.cel k _ p e2 h4
     refine ⟨_,h1,h _ H (upd G p (.lst xs)) ι (Ext.new g _) (w.freeze h4 g h5) ?_⟩
     simp only [Den]
     exact ⟨p,xs,rfl,zaI,h6.ext (Ext.new g _)⟩
    | _=>exact False.elim h
  | _=>exact False.elim h
theorem vf (i:Nat) {x:Str} (hN:X.N[i]? = some x:=by rfl) (hv:Vis X.env.scope x:=by first | exact Or.inl rfl | exact Or.inr (Or.inl rfl) | exact Or.inr (Or.inr rfl)) (hd:(x == ("__debug__" : Str))=false:=by decide)
  (hcd:(x == ("__classdict__" : Str))=false:=by decide):VE X W (.Name x pos) (vFrz i):=⟨_,ziM hN hv hd hcd,zsP⟩
theorem zmd {K:PySem.W.Frag} {v:V} {d:A} (h:∀ G ι,Den K G ι v d):Sim K (Den K) W (tC v) (fun _=>ret d):=fun G ι _ _ _ _ _ w _ q=>zbN w (h G ι) q
theorem zab {i:Int} {j}:VE X W (.Constant (.int i) j pos) (fun _=>ret (.int i)):=⟨_,zvD,zmd fun _ _=>by simp only [Den]⟩
theorem zgk {i:Bool} {j}:VE X W (.Constant (.bool i) j pos) (fun _=>ret (.bl i)):=⟨_,zv5,zmd fun _ _=>by simp only [Den]⟩
theorem zfk {j}:VE X W (.Constant .none j pos) (fun _=>ret .non):=⟨_,zvH,zmd fun _ _=>by simp only [Den]⟩
theorem zfh {x:Str} {j}:VE X W (.Constant (.str x) j pos) (fun _=>ret (.str x)):=⟨_,zuG,zmd fun _ _=>by simp only [Den]⟩
theorem zs8 {x:Str} {p:Addr} (hg:Gl X x) (hm:X.mg x=some (.ref p)) (hK:PySem.W.nsIn X.K mainGlobals x=some (some (.ref p))) (hd:(x == ("__debug__" : Str))=false:=by decide):VE X W (.Name x pos) (fun _=>ret (.gl x)) :=
 ⟨_,zqd (v := .ref p) hg hm rfl hd,zmd fun _ _=>by simp only [Den];exact ⟨p,hK,rfl⟩⟩
theorem zqR {x:Str} {i:Int} (hg:Gl X x) (hm:∃ t,X.mg x=some (.int i t)) (hd:(x == ("__debug__" : Str))=false:=by decide):VE X W (.Name x pos) (fun _=>ret (.int i)):=by
 obtain ⟨t,hm⟩:=hm
 exact ⟨_,zqd (v := .int i) hg hm ⟨t,rfl⟩ hd,zmd fun _ _=>by simp only [Den]⟩
theorem zuQ {x:Str} {n:String} (hg:Gl X x) (hm:X.mg x=none) (hv:bootBuiltins x=some (.type n)) (hn:x ≠ "__name__":=by decide) (hd:(x == ("__debug__" : Str))=false:=by decide):VE X W (.Name x pos) (fun _=>ret (.ty n)) :=
 ⟨_,zt2 (v := .ty n) hg hm hv rfl hn hd,zmd fun _ _=>by simp only [Den]⟩
theorem zag:VA X W [] (fun _=>ret []):=⟨_,zl9,fun _ _ _ _ _ _ _ w _ q=>zbN w .nil q⟩
@[simp] def zac (f:Ev→Mo A) (g:Ev→Mo (List A)):Ev→Mo (List A):=fun ρ=>mb (f ρ) fun x=>mb (g ρ) fun xs=>ret (x :: xs)
theorem zaa (h1:VE X W e fa) (h2:VA X W es fs) (hs:starEach (e :: es) X.env=(false,eval e X.env) :: starEach es X.env:=by rfl):VA X W (e :: es) (zac fa fs):=by
 obtain ⟨t,p1,s1⟩:=h1
 obtain ⟨u,p2,s2⟩:=h2
 refine ⟨_,zhE p1 p2 hs,fun G ι Ω H σ ρ Q w r h=>?_⟩
 refine s1 G ι Ω H σ ρ _ w r (Post.mb h fun x Ω1 v H1 G1 ι1 x1 w1 d1 h1=>?_)
 refine s2 G1 ι1 Ω1 H1 σ ρ _ w1 (r.ext x1) (Post.mb h1 fun xs Ω2 vs H2 G2 ι2 x2 w2 d2 h2=>?_)
 exact zbN w2 (.cons (d1.ext x2) d2) h2
@[simp] def vTup (g:Ev→Mo (List A)):Ev→Mo A:=fun ρ=>mb (g ρ) fun xs=>mb (chk (xs.length ≤ sizeLine)) fun _=>mkT xs
theorem zaN {k} (h:VA X W es fs):VE X W (.Tuple es k pos) (vTup fs):=by
 obtain ⟨t,p,s⟩:=h
 refine ⟨_,zuM p,fun G ι Ω H σ ρ Q w r h=>?_⟩
 refine s G ι Ω H σ ρ _ w r (Post.mb h fun xs Ω1 vs H1 G1 ι1 x1 w1 d1 h1=>?_)
 obtain ⟨hl,h2⟩:=Post.chk h1
 exact ⟨by rw [d1.length];exact hl,fun p hp=>zph w1 hp d1 h2⟩
@[simp] def vLst (c:Bool) (g:Ev→Mo (List A)):Ev→Mo A:=fun ρ=>mb (g ρ) fun xs=>mb (chk (xs.length ≤ sizeLine)) fun _=>mkL c xs
theorem za0 (c:Bool) (h:VA X W es fs):VE X W (.List es pos) (vLst c fs):=by
 obtain ⟨t,p,s⟩:=h
 refine ⟨_,zvt p,fun G ι Ω H σ ρ Q w r h=>?_⟩
 refine s G ι Ω H σ ρ _ w r (Post.mb h fun xs Ω1 vs H1 G1 ι1 x1 w1 d1 h1=>?_)
 obtain ⟨hl,h2⟩:=Post.chk h1
 exact ⟨by rw [d1.length];exact hl,fun p hp=>zgP w1 hp d1 h2⟩
def OpV (K:PySem.W.Frag) (W:WX) (r:R2) (g:A→A→Mo A):Prop :=
 ∀ G ι Ω H σ x y a b Q,Wd K G ι Ω H→Den K G ι x a→Den K G ι y b→Post K (Den K) W G ι σ Q (g a b Ω)→r x y H Q
def OpOk (X:Cx) (W:WX) (f:Value→Value→Sem Value) (g:A→A→Mo A):Prop:=∃ r,OpR X f r∧OpV X.K W r g
@[simp] def vOp (g:A→A→Mo A) (f h:Ev→Mo A):Ev→Mo A:=fun ρ=>mb (f ρ) fun x=>mb (h ρ) fun y=>g x y
theorem znL {K:PySem.W.Frag} {r:R2} {g:A→A→Mo A} {ta tb:TE} (ho:OpV K W r g) (h1:Sim K (Den K) W ta fa) (h2:Sim K (Den K) W tb fb):Sim K (Den K) W (tOp r ta tb) (vOp g fa fb):=by
 intro G ι Ω H σ ρ Q w q h
 refine h1 G ι Ω H σ ρ _ w q (Post.mb h fun x Ω1 v H1 G1 ι1 x1 w1 d1 h1=>?_)
 refine h2 G1 ι1 Ω1 H1 σ ρ _ w1 (q.ext x1) (Post.mb h1 fun y Ω2 u H2 G2 ι2 x2 w2 d2 h2=>?_)
 exact ho G2 ι2 Ω2 H2 σ v u x y Q w2 (d1.ext x2) d2 h2
theorem zaj {op:Operator} {g:A→A→Mo A} (ho:OpOk X W (binaryOp op) g) (ha:VE X W a fa) (hb:VE X W b fb):VE X W (.BinOp a op b pos) (vOp g fa fb):=by
 obtain ⟨r,o1,o2⟩:=ho
 obtain ⟨t,p1,s1⟩:=ha
 obtain ⟨u,p2,s2⟩:=hb
 exact ⟨_,zv4 o1 p1 p2,znL o2 s1 s2⟩
@[simp] def gI (C:Int→Int→Prop) [∀ i j,Decidable (C i j)] (g:Int→Int→A):A→A→Mo A
 | .int i, .int j=>mb (chk (C i j)) fun _=>ret (g i j)
 | _,_=>stuck
theorem zrh {K:PySem.W.Frag} {C:Int→Int→Prop} [∀ i j,Decidable (C i j)] {g:Int→Int→V} {g':Int→Int→A} (hg:∀ G ι i j,Den K G ι (g i j) (g' i j)):OpV K W (rI C g) (gI C g'):=by
 intro G ι Ω H σ x y a b Q w d1 d2 h
 cases a with
 | int i =>
  cases b with
  | int j =>
   simp only [Den] at d1 d2
   obtain ⟨hc,h2⟩:=Post.chk h
   exact ⟨i,j,d1,d2,hc,zbN w (hg _ _ _ _) h2⟩
  | _=>exact False.elim h
 | _=>exact False.elim h
@[simp] def gI0 (g:Int→Int→A):A→A→Mo A
 | .int i, .int j=>ret (g i j)
 | _,_=>stuck
theorem znV {K:PySem.W.Frag} {g:Int→Int→V} {g':Int→Int→A} (hg:∀ G ι i j,Den K G ι (g i j) (g' i j)):OpV K W (rI0 g) (gI0 g'):=by
 intro G ι Ω H σ x y a b Q w d1 d2 h
 cases a with
 | int i =>
  cases b with
  | int j =>
   simp only [Den] at d1 d2
   exact ⟨i,j,d1,d2,zbN w (hg _ _ _ _) h⟩
  | _=>exact False.elim h
 | _=>exact False.elim h
instance:∀ i j,Decidable (CMul i j):=fun i j=>by unfold CMul;infer_instance
instance:∀ i j,Decidable (CDiv i j):=fun i j=>by unfold CDiv;infer_instance
instance:∀ i j,Decidable (CPow i j):=fun i j=>by unfold CPow;infer_instance
@[simp] def gSub:=gI0 fun i j => .int (i - j)
@[simp] def gMul:=gI CMul fun i j => .int (i * j)
@[simp] def gDiv:=gI CDiv fun i j => .int (i / j)
@[simp] def gMod:=gI (fun _ j=>0 < j) fun i j => .int (i % j)
@[simp] def gPow:=gI CPow fun i j => .int (i ^ j.toNat)
theorem zbR:OpOk X W (binaryOp .Sub) gSub:=⟨_,zvC,znV fun _ _ _ _=>by simp only [Den]⟩
theorem zmt:OpOk X W (binaryOp .Mult) gMul:=⟨_,zvL,zrh fun _ _ _ _=>by simp only [Den]⟩
theorem zd0:OpOk X W (binaryOp .FloorDiv) gDiv:=⟨_,zt4,zrh fun _ _ _ _=>by simp only [Den]⟩
theorem zbm:OpOk X W (binaryOp .Mod) gMod:=⟨_,zvO,zrh fun _ _ _ _=>by simp only [Den]⟩
theorem zm4:OpOk X W (binaryOp .Pow) gPow:=⟨_,zvs,zrh fun _ _ _ _=>by simp only [Den]⟩
@[simp] def zoL:A→Bool
 | .scr _=>true
 | _=>false
theorem zr8 {a:A} (h:zoL a=false):∀ ns,a ≠ .scr ns:=fun ns e=>by subst e;cases h
@[simp] def gCat (c:Bool) (a b:A):Mo A:=fun Ω=>match zaG Ω a,zaG Ω b with
  | some xs,some ys=>if zoL a || zoL b || decide (sizeLine < xs.length + ys.length) then none else mkL c (xs ++ ys) Ω
  | _,_=>none
@[simp] def gAdd (c:Bool):A→A→Mo A
 | .int i, .int j=>ret (.int (i + j))
 | .tup xs, .tup ys=>mb (chk (0 < xs.length∧xs.length + ys.length ≤ sizeLine)) fun _=>mkT (xs ++ ys)
 | a,b=>gCat c a b
theorem zsU {K:PySem.W.Frag} {c:Bool}:OpV K W rCat (gCat c):=by
 intro G ι Ω H σ x y a b Q w d1 d2 h
 unfold gCat at h
 match e1:zaG Ω a,e2:zaG Ω b with
 | none,_=>rw [e1] at h;exact False.elim h
 | some xs,none=>rw [e1,e2] at h;exact False.elim h
 | some xs,some ys =>
  rw [e1,e2] at h
  simp only at h
  by_cases hb:(zoL a || zoL b || decide (sizeLine < xs.length + ys.length))=true
  ·rw [if_pos hb] at h;exact False.elim h
  ·rw [if_neg hb] at h
   simp only [Bool.or_eq_true,decide_eq_true_eq,not_or,Bool.not_eq_true] at hb
   obtain ⟨p,us,rfl,h2,h3⟩:=znU w d1 e1 (zr8 hb.1.1)
   obtain ⟨q,ws,rfl,h5,h6⟩:=znU w d2 e2 (zr8 hb.1.2)
   exact ⟨p,q,us,ws,rfl,rfl,h2,h5,by rw [h3.length,h6.length];omega,fun r hr=>zgP w hr (h3.append h6) h⟩
theorem zaT (c:Bool):OpOk X W (binaryOp .Add) (gAdd c):=by
 refine ⟨_,zvB.or (zvw.or zty),?_⟩
 intro G ι Ω H σ x y a b Q w d1 d2 h
 unfold gAdd at h
 split at h
 ·simp only [Den] at d1 d2
  exact .inl ⟨_,_,d1,d2,zbN w (by simp only [Den]) h⟩
 ·rename_i xs ys
  simp only [Den] at d1 d2
  obtain ⟨p,us,rfl,h2,h3⟩:=d1
  obtain ⟨q,ws,rfl,h5,h6⟩:=d2
  obtain ⟨⟨c1,c2⟩,h⟩:=Post.chk h
  refine .inr (.inr ⟨p,q,us,ws,rfl,rfl,SqT.of (w.sub _ _ h2),SqT.of (w.sub _ _ h5),?_,by rw [h3.length,h6.length];exact c2,fun e=>?_,fun _ r hr=>zph w hr (h3.append h6) h⟩)
  ·intro e
   subst e
   have:=h3.length
   simp at this
   omega
  ·subst e
   refine zbN w ?_ h
   simp only [Den]
   exact ⟨p,us,rfl,h2,by simpa using h3.append h6⟩
 ·exact .inr (.inl (zsU G ι Ω H σ x y _ _ Q w d1 d2 h))
end
end V2
namespace V2
open PySem PySem.Spec PyProof.Rows L2
def pur:Nat→A→Bool
 | _, .int _=>true
 | _, .bl _=>true
 | _, .non=>true
 | _, .str x=>PyData.canLay0 (.str x)
 | n + 1, .tup ds=>ds.all (pur n)
 | n + 1, .lst ds=>ds.all (pur n)
 | _,_=>false
def zkf (f:A→A→Bool):List A→List A→Bool
 | [],[]=>true
 | x :: xs,y :: ys=>f x y && zkf f xs ys
 | _,_=>false
def eqA:Nat→A→A→Bool
 | _, .int i, .int j=>i == j
 | _, .bl i, .bl j=>i == j
 | _, .bl i, .int j=>(if i then 1 else 0) == j
 | _, .int i, .bl j=>i == (if j then 1 else 0)
 | _, .non, .non=>true
 | _, .str x, .str y=>x == y
 | n + 1, .tup xs, .tup ys=>zkf (eqA n) xs ys
 | n + 1, .lst xs, .lst ys=>zkf (eqA n) xs ys
 | _,_,_=>false
def toPy:Nat→A→PyData
 | _, .int i => .int i
 | _, .bl i => .bool i
 | _, .str x => .str x
 | n + 1, .tup ds => .tuple (ds.map (toPy n))
 | n + 1, .lst ds => .list (ds.map (toPy n))
 | _,_ => .none
theorem zql:∀ (ds:List A) (n:Nat),(∀ d ∈ ds,pur n d=true→PyData.canLay0 (toPy n d)=true)→ds.all (pur n)=true→PyData.canLayAll0 (ds.map (toPy n))=true
 | [],_,_,_=>rfl
 | d :: ds,n,ih,h=>by
  simp only [List.all_cons,Bool.and_eq_true] at h
  simp only [List.map_cons,PyData.canLayAll0,Bool.and_eq_true]
  exact ⟨ih d (List.mem_cons_self ..) h.1,zql ds n (fun e he=>ih e (List.mem_cons_of_mem _ he)) h.2⟩
theorem zis:∀ (n:Nat) (a:A),pur n a=true→PyData.canLay0 (toPy n a)=true:=by
 intro n
 induction n with
 | zero=>intro a h;cases a <;> first | rfl | exact h | cases h
 | succ n ih =>
  intro a h
  cases a with
  | tup ds=>exact zql ds n (fun d _=>ih d) h
  | lst ds=>exact zql ds n (fun d _=>ih d) h
  | str x=>exact h
  | int i=>rfl
  | bl b=>rfl
  | non=>rfl
  | _=>cases h
theorem zqw:∀ (ds:List A) (n:Nat),(∀ d ∈ ds,(toPy n d).depth ≤ n)→PyData.depthAll (ds.map (toPy n)) ≤ n
 | [],_,_=>Nat.zero_le _
 | d :: ds,n,ih=>by
  simp only [List.map_cons,PyData.depthAll]
  exact Nat.max_le.mpr ⟨ih d (List.mem_cons_self ..),zqw ds n fun e he=>ih e (List.mem_cons_of_mem _ he)⟩
theorem zjJ:∀ (n:Nat) (a:A),(toPy n a).depth ≤ n:=by
 intro n
 induction n with
 | zero=>intro a;cases a <;> exact Nat.le_refl _
 | succ n ih =>
  intro a
  cases a with
  | tup ds=>exact Nat.succ_le_succ (zqw ds n fun d _=>ih d)
  | lst ds=>exact Nat.succ_le_succ (zqw ds n fun d _=>ih d)
  | _=>exact Nat.zero_le _
theorem zr1:∀ (xs ys:List A) (n:Nat),(∀ x ∈ xs,∀ y ∈ ys,PyData.eqv (toPy n x) (toPy n y)=eqA n x y)→PyData.eqvAll (xs.map (toPy n)) (ys.map (toPy n))=zkf (eqA n) xs ys
 | [],[],_,_=>rfl
 | [],_ :: _,_,_=>rfl
 | _ :: _,[],_,_=>rfl
 | x :: xs,y :: ys,n,ih=>by
  simp only [List.map_cons,PyData.eqvAll,zkf]
  rw [ih x (List.mem_cons_self ..) y (List.mem_cons_self ..),zr1 xs ys n fun a ha b hb=>ih a (List.mem_cons_of_mem _ ha) b (List.mem_cons_of_mem _ hb)]
theorem znb:∀ (n:Nat) (a b:A),pur n a=true→pur n b=true→PyData.eqv (toPy n a) (toPy n b)=eqA n a b:=by
 intro n
 induction n with
 | zero=>intro a b ha hb;cases a <;> cases b <;> first | rfl | (simp [pur] at ha;done) | (simp [pur] at hb;done)
 | succ n ih =>
  intro a b ha hb
  have lst:∀ xs ys:List A,xs.all (pur n)=true→ys.all (pur n)=true→PyData.eqvAll (xs.map (toPy n)) (ys.map (toPy n))=zkf (eqA n) xs ys:=fun xs ys h1 h2 =>
   zr1 xs ys n fun x hx y hy=>ih x y (List.all_eq_true.mp h1 x hx) (List.all_eq_true.mp h2 y hy)
  cases a <;> cases b <;> first | rfl | (simp [pur] at ha;done) | (simp [pur] at hb;done) | exact lst _ _ ha hb
section
variable {X:Cx} {pins:List (Addr × Obj)} {σ:L2.St} {H:Hp} {s:Shared} {ι:List Addr}
theorem readsAll (n:Nat) (ih:∀ (v:V) (u:Value) (a:A),pur n a=true→Den X.K H ι v a→RelV v u→∃ as,Reads s.heap u (toPy n a) as) :
  ∀ (ds:List A) (xs:List V) (us:List Value),ds.all (pur n)=true→DenL X.K H ι xs ds→Vals xs us→∃ as,ReadsAll s.heap us (ds.map (toPy n)) as
 | [],xs,us,_,d,r=>by
  rw [zbh] at d;subst d;cases r;exact ⟨_, .nil⟩
 | a :: ds,xs,us,h,d,r=>by
  obtain ⟨x,t,rfl,d1,d2⟩:=d.zcn
  simp only [List.all_cons,Bool.and_eq_true] at h
  cases r with
  | cons r1 r2 =>
   obtain ⟨as,q1⟩:=ih _ _ _ h.1 d1 r1
   obtain ⟨bs,q2⟩:=readsAll n ih ds _ _ h.2 d2 r2
   exact ⟨_, .cons q1 q2⟩
theorem zil (I:Inv X pins σ H s):∀ (n:Nat) (v:V) (u:Value) (a:A),pur n a=true→Den X.K H ι v a→RelV v u→∃ as,Reads s.heap u (toPy n a) as:=by
 intro n
 induction n with
 | zero =>
  intro v u a h d r
  cases a with
  | int i=>simp only [Den] at d;subst d;obtain ⟨t,rfl⟩:=r;exact ⟨_, .int i t⟩
  | bl b=>simp only [Den] at d;subst d;cases r;exact ⟨_, .bool b⟩
  | str x=>simp only [Den] at d;subst d;obtain ⟨t,rfl⟩:=r;exact ⟨_, .str x t⟩
  | non=>simp only [Den] at d;subst d;cases r;exact ⟨_, .none⟩
  | _=>cases h
 | succ n ih =>
  intro v u a h d r
  cases a with
  | int i=>simp only [Den] at d;subst d;obtain ⟨t,rfl⟩:=r;exact ⟨_, .int i t⟩
  | bl b=>simp only [Den] at d;subst d;cases r;exact ⟨_, .bool b⟩
  | str x=>simp only [Den] at d;subst d;obtain ⟨t,rfl⟩:=r;exact ⟨_, .str x t⟩
  | non=>simp only [Den] at d;subst d;cases r;exact ⟨_, .none⟩
  | tup ds =>
   simp only [Den] at d
   obtain ⟨p,xs,rfl,h2,h3⟩:=d
   cases r
   obtain ⟨its,rv,pl,hz⟩:=I.tuple (SqT.of h2)
   obtain ⟨as,q⟩:=readsAll n ih ds xs its h h3 rv
   obtain ⟨o,ho,hc,m,hd⟩:=(show s.heap.IsTuple p its.toArray from pl)
   exact ⟨_, .tuple ho hc hd (by simpa using q)⟩
  | lst ds =>
   simp only [Den] at d
   obtain ⟨p,xs,rfl,h2,h3⟩:=d
   cases r
   obtain ⟨its,rv,pl,hz⟩:=I.list (SqL.of h2)
   obtain ⟨as,q⟩:=readsAll n ih ds xs its h h3 rv
   obtain ⟨o,ho,hc,m,hd⟩:=pl.isList
   exact ⟨_, .list ho hc hd (by simpa using q)⟩
  | _=>cases h
end
def rEqA (K:PySem.W.Frag) (neg:Bool):R2:=fun x y H Q=>∃ ι a b,pur 8 a=true∧pur 8 b=true∧Den K H ι x a∧Den K H ι y b∧Q (.bl (if neg then !eqA 8 a b else eqA 8 a b)) H
theorem zuw {X:Cx} (hu:X.A.units + 64 < cLine):OpR X (compareOp .Eq) (rEqA X.K false):=by
 intro pins s σ H x y v u Q I rx ry h
 obtain ⟨ι,a,b,h1,h2,d1,d2,q⟩:=h
 obtain ⟨as,q1⟩:=zil I 8 x v a h1 d1 rx
 obtain ⟨bs,q2⟩:=zil I 8 y u b h2 d2 ry
 have e1:=zjJ 8 a
 refine SeqAt.compareEq_reads q1 q2 (zis 8 a h1) (zis 8 b h2) (by omega) ?_
 rw [znb 8 a b h1 h2]
 exact ⟨.bl (eqA 8 a b),H,I,rfl,q⟩
theorem zuA {X:Cx} (hu:X.A.units + 64 < cLine):OpR X (compareOp .NotEq) (rEqA X.K true):=by
 intro pins s σ H x y v u Q I rx ry h
 obtain ⟨ι,a,b,h1,h2,d1,d2,q⟩:=h
 obtain ⟨as,q1⟩:=zil I 8 x v a h1 d1 rx
 obtain ⟨bs,q2⟩:=zil I 8 y u b h2 d2 ry
 have e1:=zjJ 8 a
 refine SeqAt.compareNe_reads q1 q2 (zis 8 a h1) (zis 8 b h2) (by omega) ?_
 rw [znb 8 a b h1 h2]
 exact ⟨.bl (!eqA 8 a b),H,I,rfl,q⟩
def mapO (f:A→Option A):List A→Option (List A)
 | []=>some []
 | x :: xs=>match f x,mapO f xs with
  | some y,some ys=>some (y :: ys)
  | _,_=>none
def res (Ω:Sto):Nat→A→Option A
 | 0,a=>if pur 8 a=true then some a else none
 | n + 1,a=>if pur 8 a=true then some a else match a with
  | .tup ds=>(mapO (res Ω n) ds).map .tup
  | .lst ds=>(mapO (res Ω n) ds).map .lst
  | .cel k=>match Ω[k]? with
   | some (.lst ds)=>(mapO (res Ω n) ds).map .lst
   | _=>none
  | _=>none
section
variable {K:PySem.W.Frag} {G H:Hp} {ι:List Addr} {Ω:Sto}
theorem Wd.extH (w:Wd K G ι Ω H):Ext G ι H ι:=⟨w.sub,fun _ _ h=>h⟩
theorem zkt {f:A→Option A} (ih:∀ v a b,Den K G ι v a→f a=some b→Den K H ι v b):∀ (ds es:List A) (xs:List V),DenL K G ι xs ds→mapO f ds=some es→DenL K H ι xs es
 | [],es,xs,d,h=>by
  simp only [mapO,Option.some.injEq] at h;subst h
  rw [zbh] at d ⊢;exact d
 | a :: ds,es,xs,d,h=>by
  obtain ⟨x,t,rfl,d1,d2⟩:=d.zcn
  simp only [mapO] at h
  split at h
  ·rename_i y ys e1 e2
   cases h
   exact .cons (ih _ _ _ d1 e1) (zkt ih ds ys t d2 e2)
  ·cases h
theorem zsb (w:Wd K G ι Ω H):∀ (n:Nat) (v:V) (a b:A),Den K G ι v a→res Ω n a=some b→Den K H ι v b:=by
 intro n
 induction n with
 | zero =>
  intro v a b d h
  simp only [res] at h
  split at h
  ·cases h;exact d.ext w.extH
  ·cases h
 | succ n ih =>
  intro v a b d h
  simp only [res] at h
  split at h
  ·cases h;exact d.ext w.extH
  ·split at h
   ·rename_i ds _
    simp only [Option.map_eq_some_iff] at h
    obtain ⟨es,h1,rfl⟩:=h
    simp only [Den] at d ⊢
    obtain ⟨p,xs,q1,q2,q3⟩:=d
    exact ⟨p,xs,q1,w.sub _ _ q2,zkt ih ds es xs q3 h1⟩
   ·rename_i ds _
    simp only [Option.map_eq_some_iff] at h
    obtain ⟨es,h1,rfl⟩:=h
    simp only [Den] at d ⊢
    obtain ⟨p,xs,q1,q2,q3⟩:=d
    exact ⟨p,xs,q1,w.sub _ _ q2,zkt ih ds es xs q3 h1⟩
   ·rename_i k _
    split at h
    ·rename_i ds e
     simp only [Option.map_eq_some_iff] at h
     obtain ⟨es,h1,rfl⟩:=h
     simp only [Den] at d ⊢
     obtain ⟨p,q1,q2⟩:=d
     obtain ⟨g,xs,q3,q4⟩:=w.cel k _ p e q2
     exact ⟨p,xs,q1,q3,zkt ih ds es xs q4 h1⟩
    ·cases h
   ·cases h
end
def gEqB (neg:Bool) (a b:A):Mo A:=fun Ω=>match res Ω 6 a,res Ω 6 b with
 | some x,some y=>if (pur 8 x && pur 8 y)=true then some (.ok (.bl (if neg then !eqA 8 x y else eqA 8 x y)),Ω) else none
 | _,_=>none
def gEq:=gEqB false
def gNe:=gEqB true
section
variable {X:Cx} {W:WX} {e a b c:Expr} {pos:Pos} {fa fb fc:Ev→Mo A} {ta tb:Ev→Mo Bool}
theorem zpp {K:PySem.W.Frag} {neg:Bool}:OpV K W (rEqA K neg) (gEqB neg):=by
 intro G ι Ω H σ x y a b Q w d1 d2 h
 unfold gEqB at h
 split at h
 ·rename_i a' b' e1 e2
  split at h
  ·rename_i hp
   rw [Bool.and_eq_true] at hp
   exact ⟨ι,a',b',hp.1,hp.2,zsb w 6 x a a' d1 e1,zsb w 6 y b b' d2 e2,h _ H G ι (Ext.refl _ _) w (by simp only [Den])⟩
  ·exact False.elim h
 ·exact False.elim h
theorem o_eq (hu:X.A.units + 64 < cLine):OpOk X W (compareOp .Eq) gEq:=⟨_,zuw hu,zpp⟩
theorem o_ne (hu:X.A.units + 64 < cLine):OpOk X W (compareOp .NotEq) gNe:=⟨_,zuA hu,zpp⟩
@[simp] def gLt:=gI0 fun i j => .bl (decide (i < j))
@[simp] def gLe:=gI0 fun i j => .bl (decide (i ≤ j))
@[simp] def gGt:=gI0 fun i j => .bl (decide (j < i))
theorem o_lt:OpOk X W (compareOp .Lt) gLt:=⟨_,zwf,znV fun _ _ _ _=>by simp only [Den]⟩
theorem o_le:OpOk X W (compareOp .LtE) gLe:=⟨_,zv9,znV fun _ _ _ _=>by simp only [Den]⟩
theorem o_gt:OpOk X W (compareOp .Gt) gGt:=⟨_,zwn,znV fun _ _ _ _=>by simp only [Den]⟩
def zmW:A→Option Bool
 | .non=>some true
 | _=>some false
theorem znC {K:PySem.W.Frag} {G:Hp} {ι:List Addr} {v:V} {a:A} (d:Den K G ι v a):zmW a=some (decide (v = .non)):=by
 cases a with
 | non=>simp only [Den] at d;subst d;rfl
 | tup ds=>simp only [Den] at d;obtain ⟨p,xs,rfl,_⟩:=d;rfl
 | lst ds=>simp only [Den] at d;obtain ⟨p,xs,rfl,_⟩:=d;rfl
 | scr ds=>simp only [Den] at d;obtain ⟨p,rfl,_⟩:=d;rfl
 | cel ds=>simp only [Den] at d;obtain ⟨p,rfl,_⟩:=d;rfl
 | gl x=>simp only [Den] at d;obtain ⟨p,_,rfl⟩:=d;rfl
 | exn p d' f i=>simp only [Den] at d;obtain ⟨rfl,_⟩:=d;rfl
 | _=>simp only [Den] at d;subst d;rfl
@[simp] def gIsN (neg:Bool):A→A→Mo A
 | a, .non=>mb (need (zmW a)) fun k=>ret (.bl (if neg then !k else k))
 | _,_=>stuck
theorem zwp:OpOk X W (compareOp .Is) (gIsN false):=by
 refine ⟨_,zvM,?_⟩
 intro G ι Ω H σ x y a b Q w d1 d2 h
 cases b with
 | non =>
  simp only [Den] at d2
  obtain ⟨k,e,h⟩:=Post.need h
  rw [znC d1] at e
  cases e
  exact ⟨d2,zbN w (by simp only [Den];rfl) h⟩
 | _=>exact False.elim h
theorem zp0:OpOk X W (compareOp .IsNot) (gIsN true):=by
 refine ⟨_,ztj,?_⟩
 intro G ι Ω H σ x y a b Q w d1 d2 h
 cases b with
 | non =>
  simp only [Den] at d2
  obtain ⟨k,e,h⟩:=Post.need h
  rw [znC d1] at e
  cases e
  exact ⟨d2,zbN w (by simp only [Den];rfl) h⟩
 | _=>exact False.elim h
@[simp] def ztO:A→Mo Bool
 | .bl b=>ret b
 | _=>stuck
@[simp] def zaB (f:Ev→Mo A):Ev→Mo Bool:=fun ρ=>mb (f ρ) ztO
theorem zj3 {K:PySem.W.Frag} {t:TE} (h:Sim K (Den K) W t fa):Sim K relB W (zuL t) (zaB fa):=by
 intro G ι Ω H σ ρ Q w r q
 refine h G ι Ω H σ ρ _ w r (Post.mb q fun x Ω1 v H1 G1 ι1 x1 w1 d1 h1=>?_)
 cases x with
 | bl b=>simp only [Den] at d1;exact ⟨b,d1,zbN w1 rfl h1⟩
 | _=>exact False.elim h1
theorem zcW {op:CmpOp} {g:A→A→Mo A} (ho:OpOk X W (compareOp op) g) (ha:VE X W a fa) (hb:VE X W b fb) (hm:behindInMarks op b=false):VE X W (.Compare a [op] [b] pos) (vOp g fa fb):=by
 obtain ⟨r,o1,o2⟩:=ho
 obtain ⟨t,p1,s1⟩:=ha
 obtain ⟨u,p2,s2⟩:=hb
 exact ⟨_,zsn o1 p1 p2 hm,znL o2 s1 s2⟩
theorem zay {op:CmpOp} {g:A→A→Mo A} (ho:OpOk X W (compareOp op) g) (ha:VE X W a fa) (hb:VE X W b fb) (hm:behindInMarks op b=false):VT X W (.Compare a [op] [b] pos) (zaB (vOp g fa fb)):=by
 obtain ⟨r,o1,o2⟩:=ho
 obtain ⟨t,p1,s1⟩:=ha
 obtain ⟨u,p2,s2⟩:=hb
 exact ⟨_,zts o1 p1 p2 hm,zj3 (znL o2 s1 s2)⟩
theorem zfH (h:VE X W e fa) (he:∀ whole,isTrue e X.env whole=(do let v ← whole;standAt e.pos;holding [v] (truthy v)):=by intro _;rfl):VT X W e (zaB fa):=by
 obtain ⟨t,p,s⟩:=h
 exact ⟨_,zvp p he,zj3 s⟩
@[simp] def zmw (f g:Ev→Mo Bool):Ev→Mo Bool:=fun ρ=>mb (f ρ) fun c=>if c then g ρ else ret false
@[simp] def vOrT (f g:Ev→Mo Bool):Ev→Mo Bool:=fun ρ=>mb (f ρ) fun c=>if c then ret true else g ρ
@[simp] def zh3 (f:Ev→Mo Bool):Ev→Mo Bool:=fun ρ=>mb (f ρ) fun c=>ret (!c)
variable {rest:List Expr}
theorem zhQ (h:VT X W a ta):VW X W (.BoolOp .And [a] pos) ta:=let ⟨t,p,s⟩:=h; ⟨t,pw_and1 p,s⟩
theorem zez (h:VT X W a ta):VW X W (.BoolOp .Or [a] pos) ta:=let ⟨t,p,s⟩:=h; ⟨t,pw_or1 p,s⟩
theorem zjG (h1:VT X W a ta) (h2:VW X W (.BoolOp .And (b :: rest) pos) tb):VW X W (.BoolOp .And (a :: b :: rest) pos) (zmw ta tb):=by
 obtain ⟨t,p1,s1⟩:=h1
 obtain ⟨u,p2,s2⟩:=h2
 refine ⟨_,pw_and p1 p2,fun G ι Ω H σ ρ Q w r h=>?_⟩
 refine s1 G ι Ω H σ ρ _ w r (Post.mb h fun c Ω1 c' H1 G1 ι1 x1 w1 d1 h1=>?_)
 cases (show c'=c from d1)
 cases c with
 | true=>exact s2 G1 ι1 Ω1 H1 σ ρ Q w1 (r.ext x1) h1
 | false=>exact zbN w1 rfl h1
theorem zfe (h1:VT X W a ta) (h2:VW X W (.BoolOp .Or (b :: rest) pos) tb):VW X W (.BoolOp .Or (a :: b :: rest) pos) (vOrT ta tb):=by
 obtain ⟨t,p1,s1⟩:=h1
 obtain ⟨u,p2,s2⟩:=h2
 refine ⟨_,pw_or p1 p2,fun G ι Ω H σ ρ Q w r h=>?_⟩
 refine s1 G ι Ω H σ ρ _ w r (Post.mb h fun c Ω1 c' H1 G1 ι1 x1 w1 d1 h1=>?_)
 cases (show c'=c from d1)
 cases c with
 | false=>exact s2 G1 ι1 Ω1 H1 σ ρ Q w1 (r.ext x1) h1
 | true=>exact zbN w1 rfl h1
theorem VW.vt (h:VW X W e ta):VT X W e ta:=let ⟨t,p,s⟩:=h; ⟨t,p.pt,s⟩
theorem zgS (h:VT X W a ta):VT X W (.UnaryOp .Not a pos) (zh3 ta):=by
 obtain ⟨t,p,s⟩:=h
 refine ⟨_,zvl p,fun G ι Ω H σ ρ Q w r h=>?_⟩
 refine s G ι Ω H σ ρ _ w r (Post.mb h fun c Ω1 c' H1 G1 ι1 x1 w1 d1 h1=>?_)
 cases (show c'=c from d1)
 exact zbN w1 rfl h1
@[simp] def vAnd (f g:Ev→Mo A):Ev→Mo A:=fun ρ=>mb (f ρ) fun x=>mb (ztO x) fun c=>if c then g ρ else ret (.bl false)
@[simp] def vOr (f g:Ev→Mo A):Ev→Mo A:=fun ρ=>mb (f ρ) fun x=>mb (ztO x) fun c=>if c then ret (.bl true) else g ρ
theorem zgs {op} (h:VE X W a fa):VE X W (.BoolOp op [a] pos) fa:=let ⟨t,p,s⟩:=h; ⟨t,zu9 p,s⟩
theorem zp9 (h1:VE X W a fa) (h2:VE X W (.BoolOp .And (b :: rest) pos) fb):VE X W (.BoolOp .And (a :: b :: rest) pos) (vAnd fa fb):=by
 obtain ⟨t,p1,s1⟩:=h1
 obtain ⟨u,p2,s2⟩:=h2
 refine ⟨_,zvc p1 p2,fun G ι Ω H σ ρ Q w r h=>?_⟩
 refine s1 G ι Ω H σ ρ _ w r (Post.mb h fun x Ω1 v H1 G1 ι1 x1 w1 d1 h1=>?_)
 cases x with
 | bl c =>
  simp only [Den] at d1
  refine ⟨c,d1,?_⟩
  cases c with
  | true=>exact s2 G1 ι1 Ω1 H1 σ ρ Q w1 (r.ext x1) h1
  | false=>exact zbN w1 (by simp only [Den]) h1
 | _=>exact False.elim h1
theorem zmv (h1:VE X W a fa) (h2:VE X W (.BoolOp .Or (b :: rest) pos) fb):VE X W (.BoolOp .Or (a :: b :: rest) pos) (vOr fa fb):=by
 obtain ⟨t,p1,s1⟩:=h1
 obtain ⟨u,p2,s2⟩:=h2
 refine ⟨_,zwg p1 p2,fun G ι Ω H σ ρ Q w r h=>?_⟩
 refine s1 G ι Ω H σ ρ _ w r (Post.mb h fun x Ω1 v H1 G1 ι1 x1 w1 d1 h1=>?_)
 cases x with
 | bl c =>
  simp only [Den] at d1
  refine ⟨c,d1,?_⟩
  cases c with
  | false=>exact s2 G1 ι1 Ω1 H1 σ ρ Q w1 (r.ext x1) h1
  | true=>exact zbN w1 (by simp only [Den]) h1
 | _=>exact False.elim h1
@[simp] def vNeg (f:Ev→Mo A):Ev→Mo A:=fun ρ=>mb (f ρ) fun x=>match x with
 | .int i=>ret (.int (-i))
 | _=>stuck
theorem zk8 (h:VE X W a fa):VE X W (.UnaryOp .USub a pos) (vNeg fa):=by
 obtain ⟨t,p,s⟩:=h
 refine ⟨_,zwJ zuk p,fun G ι Ω H σ ρ Q w r h=>?_⟩
 refine s G ι Ω H σ ρ _ w r (Post.mb h fun x Ω1 v H1 G1 ι1 x1 w1 d1 h1=>?_)
 cases x with
 | int c =>
  simp only [Den] at d1
  exact ⟨c,d1,zbN w1 (by simp only [Den]) h1⟩
 | _=>exact False.elim h1
end
end V2
namespace V2
open PySem PySem.Spec PyProof.Rows L2
inductive Out where
 | nx | bk | ct | ret (a:A) | exc (x:Exc)
abbrev OS:=Option (Out × Ev × Sto)
abbrev MS:=Ev→Sto→OS
def OutS (K:PySem.W.Frag) (W:WX) (G:Hp) (ι:List Addr) (D:Ends) (σ:L2.St) (H:Hp):Out→Prop
 | .nx=>D.nx σ H
 | .bk=>D.bk σ H
 | .ct=>D.ct σ H
 | .ret a=>∀ v,Den K G ι v a→D.rt v H
 | .exc x=>∀ cls dx,ExcR K G ι H x cls dx→W σ cls dx H
def zcY (K:PySem.W.Frag) (W:WX) (G:Hp) (ι:List Addr) (D:Ends):OS→Prop
 | some (o,ρ',Ω')=>∀ σ' H' G' ι',Ext G ι G' ι'→Wd K G' ι' Ω' H'→EnvR K G' ι' σ' ρ'→OutS K W G' ι' D σ' H' o
 | none=>False
@[simp] def sM {α:Type} (m:Mo α) (ρ:Ev) (k:α→Sto→OS):Sto→OS:=fun Ω=>match m Ω with
 | some (.ok a,Ω1)=>k a Ω1
 | some (.exc x,Ω1)=>some (.exc x,ρ,Ω1)
 | none=>none
section
variable {K:PySem.W.Frag} {W:WX} {G:Hp} {ι:List Addr} {Ω:Sto} {σ:L2.St} {ρ:Ev} {D:Ends}
theorem zcY.ext {G1:Hp} {ι1:List Addr} {r:OS} (h:zcY K W G ι D r) (e:Ext G ι G1 ι1):zcY K W G1 ι1 D r:=by
 match r,h with
 | some (o,ρ',Ω'),h=>exact fun σ' H' G' ι' x w d=>h σ' H' G' ι' (e.trans x) w d
theorem zcY.sM {α β:Type} {rel:Rl α β} {m:Mo α} {k:α→Sto→OS} {Q1:β→Hp→Prop} (h:zcY K W G ι D (V2.sM m ρ k Ω)) (r:EnvR K G ι σ ρ)
  (hk:∀ a Ω1 v H1 G1 ι1,Ext G ι G1 ι1→Wd K G1 ι1 Ω1 H1→rel G1 ι1 v a→zcY K W G1 ι1 D (k a Ω1)→Q1 v H1):Post K rel W G ι σ Q1 (m Ω):=by
 unfold V2.sM at h
 revert h
 generalize m Ω=q
 intro h
 match q,h with
 | some (.ok a,Ω1),h=>exact fun v H1 G1 ι1 x w d=>hk a Ω1 v H1 G1 ι1 x w d (zcY.ext h x)
 | some (.exc x,Ω1),h=>exact fun cls dx H' G' ι' e w d=>h σ H' G' ι' e w (r.ext e) cls dx d
end
def SimS (K:PySem.W.Frag) (W:WX) (t:TS) (f:MS):Prop:=∀ G ι Ω H σ ρ D,Wd K G ι Ω H→EnvR K G ι σ ρ→zcY K W G ι D (f ρ Ω)→t D σ H
def VS (X:Cx) (W:WX) (st:Stmt) (f:MS):Prop:=∃ t,PS X st t∧SimS X.K W t f
def VSs (X:Cx) (W:WX) (st:List Stmt) (f:MS):Prop:=∃ t,PSs X st t∧SimS X.K W t f
def SimG (K:PySem.W.Frag) (W:WX) (t:TG) (g:A→MS):Prop:=∀ G ι Ω H σ ρ v a D,Wd K G ι Ω H→EnvR K G ι σ ρ→Den K G ι v a→zcY K W G ι D (g a ρ Ω)→t v σ H D.nx
def zws (K:PySem.W.Frag) (W:WX) (t:TGs) (g:List A→MS):Prop:=∀ G ι Ω H σ ρ vs as D,Wd K G ι Ω H→EnvR K G ι σ ρ→DenL K G ι vs as→zcY K W G ι D (g as ρ Ω)→t vs σ H D.nx
def VG (X:Cx) (W:WX) (tg:Expr) (g:A→MS):Prop:=∃ t,PG X tg t∧SimG X.K W t g
def VGs (X:Cx) (W:WX) (tgs:List Expr) (g:List A→MS):Prop:=∃ t,PGs X tgs t∧zws X.K W t g
@[simp] def sNx:MS:=fun ρ Ω=>some (.nx,ρ,Ω)
@[simp] def sSeq (f g:MS):MS:=fun ρ Ω=>match f ρ Ω with
 | some (.nx,ρ1,Ω1)=>g ρ1 Ω1
 | r=>r
section
variable {X:Cx} {W:WX} {st:Stmt} {rest:List Stmt} {f g:MS} {e:Expr} {fe:Ev→Mo A} {pos:Pos}
theorem zmK {K:PySem.W.Frag} {G H:Hp} {ι:List Addr} {Ω:Sto} {σ:L2.St} {ρ:Ev} {D:Ends} (w:Wd K G ι Ω H) (r:EnvR K G ι σ ρ) (h:zcY K W G ι D (some (.nx,ρ,Ω))):D.nx σ H:=h σ H G ι (Ext.refl _ _) w r
theorem zaw:VSs X W [] sNx:=⟨_,ztW,fun _ _ _ _ _ _ _ w r h=>zmK w r h⟩
theorem zoI {K:PySem.W.Frag} {t u:TS} (h1:SimS K W t f) (h2:SimS K W u g):SimS K W (tSeq t u) (sSeq f g):=by
 intro G ι Ω H σ ρ D w r h
 refine h1 G ι Ω H σ ρ _ w r ?_
 unfold sSeq at h
 revert h
 generalize f ρ Ω=q
 intro h
 match q,h with
 | some (.nx,ρ1,Ω1),h=>exact fun σ' H' G' ι' x w' r'=>h2 G' ι' Ω1 H' σ' ρ1 D w' r' (zcY.ext h x)
 | some (.bk,ρ1,Ω1),h=>exact h
 | some (.ct,ρ1,Ω1),h=>exact h
 | some (.ret a,ρ1,Ω1),h=>exact h
 | some (.exc a,ρ1,Ω1),h=>exact h
theorem zaf (h1:VS X W st f) (h2:VSs X W rest g):VSs X W (st :: rest) (sSeq f g):=by
 obtain ⟨t,p1,s1⟩:=h1
 obtain ⟨u,p2,s2⟩:=h2
 exact ⟨_,zrY p1 p2,zoI s1 s2⟩
theorem zai (h1:VS X W st f):VSs X W [st] f:=let ⟨t,p,s⟩:=h1; ⟨t,zsJ p,s⟩
@[simp] def sExp (fe:Ev→Mo A):MS:=fun ρ=>sM (fe ρ) ρ fun _ Ω=>some (.nx,ρ,Ω)
theorem zjg (h:VE X W e fe) (hs:swapsWith e none pos.line X.env=pure false:=by rfl):VS X W (.Expr e pos) (sExp fe):=by
 obtain ⟨t,p,s⟩:=h
 refine ⟨_,zss p hs,fun G ι Ω H σ ρ D w r h=>?_⟩
 exact s G ι Ω H σ ρ _ w r (zcY.sM h r fun a Ω1 v H1 G1 ι1 x1 w1 d1 h1=>zmK w1 (r.ext x1) h1)
@[simp] def sRet (fe:Ev→Mo A):MS:=fun ρ=>sM (fe ρ) ρ fun a Ω=>some (.ret a,ρ,Ω)
theorem zar (h:VE X W e fe):VS X W (.Return (some e) pos) (sRet fe):=by
 obtain ⟨t,p,s⟩:=h
 refine ⟨_,zvR p,fun G ι Ω H σ ρ D w r h=>?_⟩
 exact s G ι Ω H σ ρ _ w r (zcY.sM h r fun a Ω1 v H1 G1 ι1 x1 w1 d1 h1=>h1 σ H1 G1 ι1 (Ext.refl _ _) w1 (r.ext x1) v d1)
@[simp] def sIf (c:Ev→Mo Bool) (f g:MS):MS:=fun ρ=>sM (c ρ) ρ fun b Ω=>if b then f ρ Ω else g ρ Ω
theorem zba {c:Expr} {a b:List Stmt} {fc:Ev→Mo Bool} (hc:VT X W c fc) (h1:VSs X W a f) (h2:VSs X W b g):VS X W (.If c a b pos) (sIf fc f g):=by
 obtain ⟨t0,p0,s0⟩:=hc
 obtain ⟨t,p1,s1⟩:=h1
 obtain ⟨u,p2,s2⟩:=h2
 refine ⟨_,zwb p0 p1 p2,fun G ι Ω H σ ρ D w r h=>?_⟩
 refine s0 G ι Ω H σ ρ _ w r (zcY.sM h r fun c Ω1 c' H1 G1 ι1 x1 w1 d1 h1=>?_)
 cases (show c'=c from d1)
 cases c with
 | true=>exact s1 G1 ι1 Ω1 H1 σ ρ D w1 (r.ext x1) h1
 | false=>exact s2 G1 ι1 Ω1 H1 σ ρ D w1 (r.ext x1) h1
@[simp] def gN (i:Nat):A→MS:=fun a ρ Ω=>some (.nx,ρ.set i (some a),Ω)
theorem zam {i:Nat} {x:Str} (hN:X.N.Nodup) (hi:X.N[i]? = some x) (hx:Loc X.env.scope x) (hf:X.fn x=true∨X.env.scope.names.lookup x=some .local:=by first | exact .inl rfl | exact .inr rfl | assumption):VG X W (.Name x pos) (gN i) :=
 ⟨_,zsB hN hi hx hf,fun _ _ _ _ _ _ _ _ _ w r d h=>zmK w (r.set i d) h⟩
@[simp] def zbo:List A→MS:=fun as ρ Ω=>match as with
 | []=>some (.nx,ρ,Ω)
 | _=>none
@[simp] def zak (g:A→MS) (gs:List A→MS):List A→MS:=fun as=>match as with
 | a :: r=>sSeq (g a) (gs r)
 | []=>fun _ _=>none
theorem zbe:VGs X W [] zbo:=⟨_,ztE,fun G ι Ω H σ ρ vs as D w r d h=>by
 cases as with
 | nil=>rw [zbh] at d;exact ⟨d,zmK w r h⟩
 | cons=>exact False.elim h⟩
theorem zal {es:List Expr} {g:A→MS} {gs:List A→MS} (h1:VG X W e g) (h2:VGs X W es gs)
  (hs:(assignEach (e :: es) X.env).map (·.2)=assign e X.env :: (assignEach es X.env).map (·.2):=by rfl):VGs X W (e :: es) (zak g gs):=by
 obtain ⟨t,p1,s1⟩:=h1
 obtain ⟨u,p2,s2⟩:=h2
 refine ⟨_,zqQ p1 p2 hs,fun G ι Ω H σ ρ vs as D w r d h=>?_⟩
 cases as with
 | nil=>exact False.elim h
 | cons a as =>
  obtain ⟨x,xs,rfl,d1,d2⟩:=d.zcn
  refine ⟨x,xs,rfl,s1 G ι Ω H σ ρ x a { D with nx:=fun σ' H'=>u xs σ' H' D.nx } w r d1 ?_⟩
  simp only [zak,sSeq] at h
  revert h
  generalize g a ρ Ω=q
  intro h
  match q,h with
  | some (.nx,ρ1,Ω1),h=>exact fun σ' H' G' ι' x w' r'=>s2 G' ι' Ω1 H' σ' ρ1 xs as D w' r' (d2.ext x) (zcY.ext h x)
  | some (.bk,ρ1,Ω1),h=>exact h
  | some (.ct,ρ1,Ω1),h=>exact h
  | some (.ret a,ρ1,Ω1),h=>exact h
  | some (.exc a,ρ1,Ω1),h=>exact h
@[simp] def zbl (n:Nat) (gs:List A→MS):A→MS:=fun a ρ Ω=>match a with
 | .tup ds=>if ds.length=n then gs ds ρ Ω else none
 | _=>none
theorem zbS {es:List Expr} {k:Nat} {n:Nat} {gs:List A→MS} (hc:X.calm=true) (h:VGs X W es gs)
  (hn:(assignEach es X.env).length=n:=by rfl) (hst:(assignEach es X.env).findIdx? (·.1)=none:=by rfl):VG X W (.Tuple es k pos) (zbl n gs):=by
 obtain ⟨t,p,s⟩:=h
 refine ⟨_,zu4 hc p hn hst,fun G ι Ω H σ ρ v a D w r d h=>?_⟩
 unfold zbl at h
 cases a with
 | tup ds =>
  simp only at h
  by_cases hl:ds.length=n
  ·rw [if_pos hl] at h
   simp only [Den] at d
   obtain ⟨p,xs,rfl,h2,h3⟩:=d
   exact ⟨p,xs,rfl,SqT.of (w.sub _ _ h2),by rw [h3.length];exact hl,s G ι Ω H σ ρ xs ds D w r h3 h⟩
  ·rw [if_neg hl] at h;exact False.elim h
 | _=>exact False.elim h
@[simp] def sAsg (fe:Ev→Mo A) (g:A→MS):MS:=fun ρ=>sM (fe ρ) ρ fun a Ω=>g a ρ Ω
theorem zo4 {K:PySem.W.Frag} {te:TE} {t:TG} {g:A→MS} (h1:Sim K (Den K) W te fe) (h2:SimG K W t g):SimS K W (tAsg te t) (sAsg fe g):=by
 intro G ι Ω H σ ρ D w r h
 exact h1 G ι Ω H σ ρ _ w r (zcY.sM h r fun a Ω1 v H1 G1 ι1 x1 w1 d1 h1=>h2 G1 ι1 Ω1 H1 σ ρ v a D w1 (r.ext x1) d1 h1)
theorem zg4 {tg:Expr} {g:A→MS} (he:VE X W e fe) (hg:VG X W tg g) (hs:swapsWithSole [tg] e pos.line X.env=pure false:=by rfl) (hw:swappedStores [tg] e X.env=pure none:=by rfl)
  (h1:(assignEach [tg] X.env).map (·.2)=[assign tg X.env]:=by rfl):VS X W (.Assign [tg] e pos) (sAsg fe g):=by
 obtain ⟨t,p1,s1⟩:=he
 obtain ⟨u,p2,s2⟩:=hg
 exact ⟨_,zuT p1 p2 hs hw h1,zo4 s1 s2⟩
theorem zav {i:Nat} {x:Str} {pos':Pos} (hN:X.N.Nodup) (hi:X.N[i]? = some x) (hx:Loc X.env.scope x) (he:VE X W e fe) (hs:swapsWith e (some (.Name x pos')) pos.line X.env=pure false:=by rfl) (hf:X.fn x=true∨X.env.scope.names.lookup x=some .local:=by first | exact .inl rfl | exact .inr rfl | assumption) :
  VS X W (.Assign [.Name x pos'] e pos) (sAsg fe (gN i)):=by
 obtain ⟨t,p1,s1⟩:=he
 exact ⟨_,zu8 hN hi hx p1 hs hf,zo4 s1 fun _ _ _ _ _ _ _ _ _ w r d h=>zmK w (r.set i d) h⟩
structure Src where
 ds:List A
 ok:Sto→Prop
structure ItV (K:PySem.W.Frag) (G:Hp) (ι:List Addr) (J:It) (S:Src):Prop where
 go:∀ G' ι' Ω' H',Ext G ι G' ι'→Wd K G' ι' Ω' H'→S.ok Ω'→∀ i,i < S.ds.length→J.go i H'
 stop:∀ G' ι' Ω' H',Ext G ι G' ι'→Wd K G' ι' Ω' H'→S.ok Ω'→∀ i,S.ds.length ≤ i→J.stop i H'
 yld:∀ G' ι' Ω' H',Ext G ι G' ι'→Wd K G' ι' Ω' H'→S.ok Ω'→∀ i x H2 d,S.ds[i]? = some d→J.yld i H' x H2→∃ G2,Ext G' ι' G2 ι'∧Wd K G2 ι' Ω' H2∧Den K G2 ι' x d
def relI (K:PySem.W.Frag):Rl Src It:=fun G ι J S=>ItV K G ι J S
theorem ItV.ext {K:PySem.W.Frag} {G G1:Hp} {ι ι1:List Addr} {J:It} {S:Src} (h:ItV K G ι J S) (e:Ext G ι G1 ι1):ItV K G1 ι1 J S :=
 ⟨fun G' ι' Ω' H' x=>h.go G' ι' Ω' H' (e.trans x),fun G' ι' Ω' H' x=>h.stop G' ι' Ω' H' (e.trans x),fun G' ι' Ω' H' x=>h.yld G' ι' Ω' H' (e.trans x)⟩
def VI (X:Cx) (W:WX) (tg iter:Expr) (f:Ev→Mo Src):Prop:=∃ t,PI X tg iter t∧Sim X.K (relI X.K) W t f
open Classical in
noncomputable def fFor (ok:Sto→Prop) (g:A→MS) (b:MS):List A→MS
 | [],ρ,Ω=>if ok Ω then some (.nx,ρ,Ω) else none
 | x :: xs,ρ,Ω=>if ok Ω then (match g x ρ Ω with
  | some (.nx,ρ0,Ω0)=>(match b ρ0 Ω0 with
   | some (.nx,ρ1,Ω1)=>fFor ok g b xs ρ1 Ω1
   | some (.ct,ρ1,Ω1)=>fFor ok g b xs ρ1 Ω1
   | some (.bk,ρ1,Ω1)=>some (.nx,ρ1,Ω1)
   | r=>r)
  | some (.exc e,ρ0,Ω0)=>some (.exc e,ρ0,Ω0)
  | _=>none) else none
@[simp] noncomputable def sFor (fi:Ev→Mo Src) (g:A→MS) (b:MS):MS:=fun ρ=>sM (fi ρ) ρ fun S Ω=>fFor S.ok g b S.ds ρ Ω
theorem zsW {K:PySem.W.Frag} {G:Hp} {ι:List Addr} {D:Ends} {ok:Sto→Prop} {g:A→MS} {b:MS} {xs:List A} {ρ:Ev} {Ω:Sto} (h:zcY K W G ι D (fFor ok g b xs ρ Ω)):ok Ω:=by
 cases xs with
 | nil =>
  unfold fFor at h
  by_cases hp:ok Ω
  ·exact hp
  ·rw [if_neg hp] at h;exact False.elim h
 | cons =>
  unfold fFor at h
  by_cases hp:ok Ω
  ·exact hp
  ·rw [if_neg hp] at h;exact False.elim h
theorem zsu {K:PySem.W.Frag} {wi:TI} {tg:TG} {tb:TS} {fi:Ev→Mo Src} {g:A→MS} {b:MS} (hi:Sim K (relI K) W wi fi) (hg:SimG K W tg g) (hb:SimS K W tb b):SimS K W (tFor wi tg tb) (sFor fi g b):=by
 intro G ι Ω H σ ρ D w r h
 refine hi G ι Ω H σ ρ _ w r (zcY.sM h r fun S Ω1 J H1 G1 ι1 x1 w1 j1 h1=>?_)
 refine ⟨fun i m σ' H'=>m=S.ds.length - i∧i ≤ S.ds.length∧∃ G' ι' Ω' ρ',Ext G1 ι1 G' ι'∧Wd K G' ι' Ω' H'∧EnvR K G' ι' σ' ρ'∧zcY K W G' ι' D (fFor S.ok g b (S.ds.drop i) ρ' Ω'),
  ⟨_,rfl,Nat.zero_le _,G1,ι1,Ω1,ρ,Ext.refl _ _,w1,r.ext x1,by simpa using h1⟩,?_⟩
 rintro i m σ' H' ⟨rfl,hil,G',ι',Ω',ρ',e',w',r',h'⟩
 have hok:=zsW h'
 by_cases hlt:i < S.ds.length
 ·right
  refine ⟨j1.go G' ι' Ω' H' e' w' hok i hlt,fun σ2 H2=>∃ G2 ι2 Ω2 ρ2,Ext G1 ι1 G2 ι2∧Wd K G2 ι2 Ω2 H2∧EnvR K G2 ι2 σ2 ρ2∧zcY K W G2 ι2 D (fFor S.ok g b (S.ds.drop (i + 1)) ρ2 Ω2),fun σ2 H2 n=>?_,fun x H2 y=>?_⟩
  ·exact ⟨S.ds.length - (i + 1),by omega,rfl,hlt,n⟩
  ·obtain ⟨G2,e2,w2,d2⟩:=j1.yld G' ι' Ω' H' e' w' hok i x H2 S.ds[i] (List.getElem?_eq_getElem hlt) y
   rw [List.drop_eq_getElem_cons hlt] at h'
   unfold fFor at h'
   rw [if_pos hok] at h'
   refine hg G2 ι' Ω' H2 σ' ρ' x S.ds[i] { D with nx:=fun σ3 H3=>tb _ σ3 H3 } w2 (r'.ext e2) d2 ?_
   revert h'
   generalize g S.ds[i] ρ' Ω'=q
   intro h'
   match q,h' with
   | some (.nx,ρ3,Ω3),h' =>
    intro σ3 H3 G3 ι3 x3 w3 r3
    refine hb G3 ι3 Ω3 H3 σ3 ρ3 _ w3 r3 ?_
    simp only at h'
    revert h'
    generalize b ρ3 Ω3=q2
    intro h'
    match q2,h' with
    | some (.nx,ρ4,Ω4),h'=>exact fun σ4 H4 G4 ι4 x4 w4 r4=>⟨G4,ι4,Ω4,ρ4,(e'.trans (e2.trans x3)).trans x4,w4,r4,zcY.ext h' ((e2.trans x3).trans x4)⟩
    | some (.ct,ρ4,Ω4),h'=>exact fun σ4 H4 G4 ι4 x4 w4 r4=>⟨G4,ι4,Ω4,ρ4,(e'.trans (e2.trans x3)).trans x4,w4,r4,zcY.ext h' ((e2.trans x3).trans x4)⟩
    | some (.bk,ρ4,Ω4),h'=>exact fun σ4 H4 G4 ι4 x4 w4 r4=>h' σ4 H4 G4 ι4 ((e2.trans x3).trans x4) w4 r4
    | some (.ret a,ρ4,Ω4),h'=>exact fun σ4 H4 G4 ι4 x4 w4 r4=>h' σ4 H4 G4 ι4 ((e2.trans x3).trans x4) w4 r4
    | some (.exc a,ρ4,Ω4),h'=>exact fun σ4 H4 G4 ι4 x4 w4 r4=>h' σ4 H4 G4 ι4 ((e2.trans x3).trans x4) w4 r4
   | some (.exc a,ρ3,Ω3),h'=>exact fun σ4 H4 G4 ι4 x4 w4 r4=>h' σ4 H4 G4 ι4 (e2.trans x4) w4 r4
 ·have hie:i=S.ds.length:=by omega
  subst hie
  left
  rw [List.drop_length] at h'
  unfold fFor at h'
  rw [if_pos hok] at h'
  exact ⟨j1.stop G' ι' Ω' H' e' w' hok _ (Nat.le_refl _),zmK w' r' h'⟩
theorem zdL {tg iter:Expr} {body:List Stmt} {fi:Ev→Mo Src} {g:A→MS} {b:MS} (hp:PassesOwn (model X.prog X.w) X.A X.env X.xe) (hc:X.calm=true) (hi:VI X W tg iter fi) (hg:VG X W tg g) (hb:VSs X W body b)
  (hs:∀ x,foldedSetIterable iter X.env x=pure x:=by intro _;rfl):VS X W (.For tg iter body [] pos) (sFor fi g b):=by
 obtain ⟨t1,p1,s1⟩:=hi
 obtain ⟨t2,p2,s2⟩:=hg
 obtain ⟨t3,p3,s3⟩:=hb
 exact ⟨_,zvE hp hc p1 p2 p3 hs,zsu s1 s2 s3⟩
@[simp] def srcOf (a:A) (ds:List A):Src:=⟨ds,fun Ω=>zbj Ω a=some ds⟩
theorem zlf {Ω:Sto} {a:A} {ds:List A} (h:zbj Ω a=some ds) (ha:∀ es,a ≠ .tup es):zaG Ω a=some ds:=by
 cases a with
 | tup es=>exact absurd rfl (ha es)
 | _=>exact h
theorem zvn {tg l:Expr} {tl:TE} (hl:PE X l tl):PI X tg l (fun σ H R=>tl σ H fun x H1=>∃ a,x = .ref a∧(((∃ xs,SqL X.K H1 a xs)∧R (Itl X.K a) H1)∨((∃ xs,SqT X.K H1 a xs)∧R (Itt X.K a) H1))):=by
 intro pins s σ H R I h
 refine thn (hl pins s σ H _ I h) fun v s1 ⟨x,H1,I1,r1,q1⟩=>?_
 obtain ⟨a,e,q⟩:=q1
 subst e
 cases r1
 rcases q with ⟨⟨xs,hq⟩,q⟩ | ⟨⟨xs,hq⟩,q⟩
 ·obtain ⟨its,rv,p,hz⟩:=I1.list hq
  refine wpAny_pyIter_list p.isList ?_
  refine ⟨s1.heap.objs.size,[s1.heap.objs.size],_,_,H1,rfl,I1.kept (t':=s1.toks) fun b o e=>Heap.get?_push_of_some _ e,zpG a _,⟨_,Heap.get?_push_size _ rfl,rfl,rfl⟩,fun b hb=>?_,q⟩
  have e:b=s1.heap.objs.size:=by simpa using hb
  subst e
  exact I1.fpOk (Nat.le_refl _) (I1.hok.fresh (Nat.le_refl _))
 ·obtain ⟨its,rv,p,hz⟩:=I1.tuple hq
  refine wpAny_pyIter_tuple (show s1.heap.IsTuple a its.toArray from p) ?_
  refine ⟨s1.heap.objs.size,[s1.heap.objs.size],_,_,H1,rfl,I1.kept (t':=s1.toks) fun b o e=>Heap.get?_push_of_some _ e,zow a _,⟨_,Heap.get?_push_size _ rfl,rfl,rfl⟩,fun b hb=>?_,q⟩
  have e:b=s1.heap.objs.size:=by simpa using hb
  subst e
  exact I1.fpOk (Nat.le_refl _) (I1.hok.fresh (Nat.le_refl _))
@[simp] def vSeq (f:Ev→Mo A):Ev→Mo Src:=fun ρ=>mb (f ρ) fun a Ω=>match zbj Ω a with
 | some ds=>some (.ok (srcOf a ds),Ω)
 | none=>none
theorem zsT {K:PySem.W.Frag} {G:Hp} {ι:List Addr} {p:Addr} {a:A} {ds:List A} (d:Den K G ι (.ref p) a) (ha:∀ es,a ≠ .tup es):ItV K G ι (Itl K p) (srcOf a ds):=by
 have key:∀ G' ι' Ω' H',Ext G ι G' ι'→Wd K G' ι' Ω' H'→zbj Ω' a=some ds→∃ xs,SqL K H' p xs∧DenL K G' ι' xs ds:=fun G' ι' Ω' H' e w h=>by
  obtain ⟨q,xs,h1,h2,h3⟩:=zby w (d.ext e) (zlf h ha)
  cases h1
  exact ⟨xs,h2,h3⟩
 refine ⟨fun G' ι' Ω' H' e w h i hi=>?_,fun G' ι' Ω' H' e w h i hi=>?_,fun G' ι' Ω' H' e w h i x H2 y hy hd=>?_⟩
 ·obtain ⟨xs,h2,h3⟩:=key G' ι' Ω' H' e w h
  have hl:i < xs.length:=by rw [h3.length];exact hi
  exact ⟨xs,xs[i],h2,List.getElem?_eq_getElem hl⟩
 ·obtain ⟨xs,h2,h3⟩:=key G' ι' Ω' H' e w h
  exact ⟨xs,h2,by rw [h3.length];exact hi⟩
 ·obtain ⟨xs,h2,h3⟩:=key G' ι' Ω' H' e w h
  obtain ⟨e1,e2⟩:=hd
  subst e1
  obtain ⟨z,q1,q2⟩:=h3.get hy
  rw [e2 xs h2] at q1
  cases q1
  exact ⟨G',Ext.refl _ _,w,q2⟩
theorem zta {K:PySem.W.Frag} {G:Hp} {ι:List Addr} {p:Addr} {ds es:List A} (d:Den K G ι (.ref p) (.tup es)):ItV K G ι (Itt K p) (srcOf (.tup es) ds):=by
 have key:∀ G' ι' Ω' H',Ext G ι G' ι'→Wd K G' ι' Ω' H'→zbj Ω' (.tup es)=some ds→∃ xs,SqT K H' p xs∧DenL K G' ι' xs ds:=fun G' ι' Ω' H' e w h=>by
  simp only [zbj,Option.some.injEq] at h
  subst h
  have d':=d.ext e
  simp only [Den] at d'
  obtain ⟨q,xs,h1,h2,h3⟩:=d'
  cases h1
  exact ⟨xs,SqT.of (w.sub _ _ h2),h3⟩
 refine ⟨fun G' ι' Ω' H' e w h i hi=>?_,fun G' ι' Ω' H' e w h i hi=>?_,fun G' ι' Ω' H' e w h i x H2 y hy hd=>?_⟩
 ·obtain ⟨xs,h2,h3⟩:=key G' ι' Ω' H' e w h
  have hl:i < xs.length:=by rw [h3.length];exact hi
  exact ⟨xs,xs[i],h2,List.getElem?_eq_getElem hl⟩
 ·obtain ⟨xs,h2,h3⟩:=key G' ι' Ω' H' e w h
  exact ⟨xs,h2,by rw [h3.length];exact hi⟩
 ·obtain ⟨xs,h2,h3⟩:=key G' ι' Ω' H' e w h
  obtain ⟨e1,e2⟩:=hd
  subst e1
  obtain ⟨z,q1,q2⟩:=h3.get hy
  rw [e2 xs h2] at q1
  cases q1
  exact ⟨G',Ext.refl _ _,w,q2⟩
theorem zgW {tg l:Expr} {fe:Ev→Mo A} (h:VE X W l fe):VI X W tg l (vSeq fe):=by
 obtain ⟨t,p,s⟩:=h
 refine ⟨_,zvn p,fun G ι Ω H σ ρ R w r h=>?_⟩
 refine s G ι Ω H σ ρ _ w r (Post.mb h fun a Ω1 v H1 G1 ι1 x1 w1 d1 h1=>?_)
 cases e:zbj Ω1 a with
 | none=>simp only [e] at h1;exact False.elim h1
 | some ds =>
  simp only [e] at h1
  obtain ⟨q,xs,h2,h3,h4⟩:=zgU w1 d1 e
  subst h2
  refine ⟨q,rfl,?_⟩
  cases a with
  | tup es =>
   right
   simp only [Den] at d1
   obtain ⟨q',xs',e1,e2,e3⟩:=id d1
   cases e1
   exact ⟨⟨_,SqT.of (w1.sub _ _ e2)⟩,h1 _ H1 G1 ι1 (Ext.refl _ _) w1 (zta (by simpa only [Den] using d1))⟩
  | _ =>
   left
   obtain ⟨q',xs',e1,e2,e3⟩:=zby w1 d1 (zlf e (by intro _ z;cases z))
   cases e1
   exact ⟨⟨_,e2⟩,h1 _ H1 G1 ι1 (Ext.refl _ _) w1 (zsT d1 (by intro _ z;cases z))⟩
@[simp] def zeN (lo:Int) (n:Nat):Src:=⟨(List.range n).map fun (i:Nat)=>A.int (lo + (i:Int)),fun _=>True⟩
def zb6 (i:Int):Prop:=-(2 ^ 62) ≤ i∧i < 2 ^ 62
instance (i:Int):Decidable (zb6 i):=by unfold zb6;infer_instance
theorem zoO {K:PySem.W.Frag} {G:Hp} {ι:List Addr} {lo:Int} {n:Nat}:ItV K G ι (Itr lo n) (zeN lo n):=by
 refine ⟨fun _ _ _ _ _ _ _ i hi=>show i < n by simpa [zeN] using hi,fun _ _ _ _ _ _ _ i hi=>show n ≤ i by simpa [zeN] using hi,fun G' ι' Ω' H' e w h i x H2 y hy hd=>?_⟩
 obtain ⟨e1,e2⟩:=hd
 subst e1 e2
 refine ⟨G',Ext.refl _ _,w,?_⟩
 simp only [zeN,List.getElem?_map] at hy
 cases e:(List.range n)[i]? with
 | none=>rw [e] at hy;cases hy
 | some j =>
  rw [e] at hy
  cases hy
  have:=(List.getElem?_eq_some_iff.mp e).2
  simp at this
  subst this
  simp only [Den]
@[simp] def zi2 (f:Ev→Mo (List A)):Ev→Mo Src:=fun ρ=>mb (f ρ) fun as=>match as with
 | [.int j]=>mb (chk (zb6 j)) fun _=>ret (zeN 0 j.toNat)
 | _=>stuck
@[simp] def zqK (f:Ev→Mo (List A)):Ev→Mo Src:=fun ρ=>mb (f ρ) fun as=>match as with
 | [.int i, .int j]=>mb (chk (zb6 i∧zb6 j)) fun _=>ret (zeN i (j - i).toNat)
 | _=>stuck
theorem zf1 {tg a:Expr} {fs:Ev→Mo (List A)} {p:Pos} (hg:Gl X "range") (hm:X.mg "range" = none) (ha:VA X W [a] fs) (hs:starEach [a] X.env=[(false,eval a X.env)]:=by rfl):VI X W tg (.Call (.Name "range" p) [a] [] pos) (zi2 fs):=by
 obtain ⟨t,p,s⟩:=ha
 refine ⟨_,zp2 hg hm p hs,fun G ι Ω H σ ρ R w r h=>?_⟩
 refine s G ι Ω H σ ρ _ w r (Post.mb h fun as Ω1 vs H1 G1 ι1 x1 w1 d1 h1=>?_)
 split at h1
 ·rename_i j
  obtain ⟨v,t,rfl,q1,q2⟩:=d1.zcn
  rw [zbh] at q2;subst q2
  simp only [Den] at q1;subst q1
  obtain ⟨hc,h2⟩:=Post.chk h1
  exact ⟨j,rfl,hc.1,hc.2,zbN w1 zoO h2⟩
 ·exact False.elim h1
theorem zpy {tg a b:Expr} {fs:Ev→Mo (List A)} {p:Pos} (hg:Gl X "range") (hm:X.mg "range" = none) (ha:VA X W [a,b] fs) (hs:starEach [a,b] X.env=[(false,eval a X.env),(false,eval b X.env)]:=by rfl) (hs2:starEach [b] X.env=[(false,eval b X.env)]:=by rfl):VI X W tg (.Call (.Name "range" p) [a,b] [] pos) (zqK fs):=by
 obtain ⟨t,p,s⟩:=ha
 refine ⟨_,zp1 hg hm p hs hs2,fun G ι Ω H σ ρ R w r h=>?_⟩
 refine s G ι Ω H σ ρ _ w r (Post.mb h fun as Ω1 vs H1 G1 ι1 x1 w1 d1 h1=>?_)
 split at h1
 ·rename_i i j
  obtain ⟨v,t,rfl,q1,q2⟩:=d1.zcn
  obtain ⟨v',t',rfl,q3,q4⟩:=q2.zcn
  rw [zbh] at q4;subst q4
  simp only [Den] at q1 q3;subst q1 q3
  obtain ⟨hc,h2⟩:=Post.chk h1
  exact ⟨i,j,rfl,⟨hc.1.1,hc.1.2,hc.2.1,hc.2.2⟩,zbN w1 zoO h2⟩
 ·exact False.elim h1
end
end V2
namespace V2
open PySem PySem.Spec PyProof.Rows L2
section
variable {X:Cx} {W:WX} {e a b:Expr} {es:List Expr} {pos:Pos} {fa fb:Ev→Mo A} {fs:Ev→Mo (List A)}
@[simp] def gIx (a i:A):Mo A:=fun Ω=>match zbj Ω a,i with
 | some ds, .int n=>match atI ds n with
  | some d=>some (.ok d,Ω)
  | none=>none
 | _,_=>none
theorem ztD {K:PySem.W.Frag} {G:Hp} {ι:List Addr} {xs:List V} {ds:List A} {n:Int} {d:A} (h:DenL K G ι xs ds) (e:atI ds n=some d):∃ x,atI xs n=some x∧Den K G ι x d:=by
 unfold atI at e ⊢
 rw [h.length]
 cases q:ixN ds.length n with
 | none=>rw [q] at e;cases e
 | some j=>rw [q] at e;exact h.get e
theorem zaD (ha:VE X W a fa) (hb:VE X W b fb) (hs:zoK b):VE X W (.Subscript a b pos) (vOp gIx fa fb):=by
 obtain ⟨t,p1,s1⟩:=ha
 obtain ⟨u,p2,s2⟩:=hb
 refine ⟨_,zv6 zu1 p1 p2 hs,znL ?_ s1 s2⟩
 intro G ι Ω H σ x y a i Q w d1 d2 h
 unfold gIx at h
 split at h
 ·rename_i ds n e1
  split at h
  ·rename_i d e
   simp only [Den] at d2
   have fin:∀ v,Den X.K G ι v d→Q v H:=fun v hv=>h v H G ι (Ext.refl _ _) w hv
   obtain ⟨p,xs,rfl,hq,hd⟩:=zgU w d1 e1
   obtain ⟨v,q1,q2⟩:=ztD hd e
   rcases hq with hq | hq
   ·exact .inl ⟨p,xs,n,v,rfl,d2,hq,q1,fin v q2⟩
   ·exact .inr (.inl ⟨p,xs,n,v,rfl,d2,hq,q1,fin v q2⟩)
  ·exact False.elim h
 ·exact False.elim h
def VO (X:Cx) (W:WX) (e:Option Expr) (f:Ev→Mo (Option Int)):Prop:=∃ t,PO X e t∧Sim X.K (fun _ _ o o'=>o=o') W t f
theorem zcp:VO X W none (fun _=>ret none):=⟨_,zsy,fun _ _ _ _ _ _ _ w _ q=>zbN w rfl q⟩
@[simp] def zfl (f:Ev→Mo A):Ev→Mo (Option Int):=fun ρ=>mb (f ρ) fun x=>match x with
 | .int i=>ret (some i)
 | _=>stuck
theorem zco (h:VE X W e fa):VO X W (some e) (zfl fa):=by
 obtain ⟨t,p,s⟩:=h
 refine ⟨_,zsM p,fun G ι Ω H σ ρ Q w r h=>?_⟩
 refine s G ι Ω H σ ρ _ w r (Post.mb h fun x Ω1 v H1 G1 ι1 x1 w1 d1 h1=>?_)
 cases x with
 | int i=>simp only [Den] at d1;exact ⟨i,d1,zbN w1 rfl h1⟩
 | _=>exact False.elim h1
def cutA (ds:List A) (lo hi:Option Int):List A:=(ds.drop (HT.sIx ds.length 0 lo)).take (HT.sIx ds.length ds.length hi - HT.sIx ds.length 0 lo)
theorem zqB {K:PySem.W.Frag} {G:Hp} {ι:List Addr} {xs:List V} {ds:List A} (h:DenL K G ι xs ds) (lo hi:Option Int):DenL K G ι (cutV xs lo hi) (cutA ds lo hi):=by
 unfold cutV cutA
 rw [h.length]
 exact (h.drop _).take _
@[simp] def gSl (c:Bool) (a:A) (lo hi:Option Int):Mo A:=fun Ω=>match a with
 | .tup ds=>if HT.sIx ds.length 0 lo=0∧HT.sIx ds.length ds.length hi=ds.length then none else some (.ok (.tup (cutA ds lo hi)),Ω)
 | a=>match zaG Ω a with
  | some ds=>mkL c (cutA ds lo hi) Ω
  | none=>none
@[simp] def vSl (c:Bool) (f:Ev→Mo A) (l h:Ev→Mo (Option Int)):Ev→Mo A:=fun ρ=>mb (f ρ) fun a=>mb (l ρ) fun lo=>mb (h ρ) fun hi=>gSl c a lo hi
theorem zbJ (c:Bool) {lo hi:Option Expr} {fl fh:Ev→Mo (Option Int)} {p2:Pos} (he:VE X W e fa) (hl:VO X W lo fl) (hh:VO X W hi fh):VE X W (.Subscript e (.Slice lo hi none p2) pos) (vSl c fa fl fh):=by
 obtain ⟨t,p1,s1⟩:=he
 obtain ⟨u,p2,s2⟩:=hl
 obtain ⟨u',p3,s3⟩:=hh
 refine ⟨_,zq7 (ztc.or zuS) p1 p2 p3,fun G ι Ω H σ ρ Q w r h=>?_⟩
 refine s1 G ι Ω H σ ρ _ w r (Post.mb h fun x Ω1 v H1 G1 ι1 x1 w1 d1 h1=>?_)
 refine s2 G1 ι1 Ω1 H1 σ ρ _ w1 (r.ext x1) (Post.mb h1 fun o Ω2 o' H2 G2 ι2 x2 w2 d2 h2=>?_)
 cases (show o'=o from d2)
 refine s3 G2 ι2 Ω2 H2 σ ρ _ w2 ((r.ext x1).ext x2) (Post.mb h2 fun k Ω3 k' H3 G3 ι3 x3 w3 d3 h3=>?_)
 cases (show k'=k from d3)
 have d:=d1.ext (x2.trans x3)
 unfold gSl at h3
 cases x with
 | tup ds =>
  simp only at h3
  split at h3
  ·exact False.elim h3
  ·rename_i hn
   simp only [Den] at d
   obtain ⟨p,xs,rfl,q2,q3⟩:=d
   exact .inr ⟨p,xs,rfl,SqT.of (w3.sub _ _ q2),by rw [q3.length];exact hn,fun l hl=>zph w3 hl (zqB q3 o k) h3⟩
 | _ =>
  simp only at h3
  split at h3
  ·rename_i ds e
   obtain ⟨p,xs,rfl,q2,q3⟩:=zby w3 d e
   exact .inl ⟨p,xs,rfl,q2,fun l hl=>zgP w3 hl (zqB q3 o k) h3⟩
  ·exact False.elim h3
def zvQ (K:PySem.W.Frag) (W:WX) (r:List V→Hp→VK→Prop) (g:List A→Mo A):Prop :=
 ∀ G ι Ω H σ xs as Q,Wd K G ι Ω H→DenL K G ι xs as→Post K (Den K) W G ι σ Q (g as Ω)→r xs H Q
def zej (X:Cx) (W:WX) (f:Value) (g:List A→Mo A):Prop:=∃ r,zeR X f r∧zvQ X.K W r g
@[simp] def vCl (g:List A→Mo A) (f:Ev→Mo (List A)):Ev→Mo A:=fun ρ=>mb (f ρ) g
theorem zsa {K:PySem.W.Frag} {r:List V→Hp→VK→Prop} {g:List A→Mo A} {t:TA} (hg:zvQ K W r g) (h:Sim K (DenL K) W t fs):Sim K (Den K) W (tCB r t) (vCl g fs):=by
 intro G ι Ω H σ ρ Q w q h2
 exact h G ι Ω H σ ρ _ w q (Post.mb h2 fun as Ω1 vs H1 G1 ι1 x1 w1 d1 h1=>hg G1 ι1 Ω1 H1 σ vs as Q w1 d1 h1)
theorem zaH {id:String} {x:Str} {g:List A→Mo A} {p:Pos} (hc:zej X W (.builtin id) g) (hg:Gl X x) (hm:X.mg x=none) (hv:bootBuiltins x=some (.builtin id)) (ha:VA X W (e :: es) fs) (hn:x ≠ "__name__":=by decide) (hdb:(x == ("__debug__" : Str))=false:=by decide)
  (he:starEach (e :: es) X.env=(false,eval e X.env) :: starEach es X.env:=by rfl) (hpl:(backTo pos (starEach es X.env)).any (·.1)=false:=by rfl):VE X W (.Call (.Name x p) (e :: es) [] pos) (vCl g fs):=by
 obtain ⟨r,c1,c2⟩:=hc
 obtain ⟨t,p1,s1⟩:=ha
 exact ⟨_,zrQ c1 hg hm hv p1 hn hdb he hpl,zsa c2 s1⟩
theorem zeH {T:String} {x:Str} {g:List A→Mo A} {p:Pos} (hc:zej X W (.type T) g) (hg:Gl X x) (hm:X.mg x=none) (hv:bootBuiltins x=some (.type T)) (ha:VA X W (e :: es) fs) (hn:x ≠ "__name__":=by decide) (hdb:(x == ("__debug__" : Str))=false:=by decide)
  (he:starEach (e :: es) X.env=(false,eval e X.env) :: starEach es X.env:=by rfl) (hpl:(backTo pos (starEach es X.env)).any (·.1)=false:=by rfl):VE X W (.Call (.Name x p) (e :: es) [] pos) (vCl g fs):=by
 obtain ⟨r,c1,c2⟩:=hc
 obtain ⟨t,p1,s1⟩:=ha
 exact ⟨_,zp3 c1 hg hm hv p1 hn hdb he hpl,zsa c2 s1⟩
theorem den1 {K:PySem.W.Frag} {G:Hp} {ι:List Addr} {xs:List V} {d:A} (h:DenL K G ι xs [d]):∃ x,xs=[x]∧Den K G ι x d:=by
 obtain ⟨x,r,rfl,h1,h2⟩:=h.zcn
 rw [zbh] at h2;subst h2
 exact ⟨x,rfl,h1⟩
theorem den2 {K:PySem.W.Frag} {G:Hp} {ι:List Addr} {xs:List V} {d d':A} (h:DenL K G ι xs [d,d']):∃ x y,xs=[x,y]∧Den K G ι x d∧Den K G ι y d':=by
 obtain ⟨x,r,rfl,h1,h2⟩:=h.zcn
 obtain ⟨y,rfl,h3⟩:=den1 h2
 exact ⟨x,y,rfl,h1,h3⟩
@[simp] def gLen (as:List A):Mo A:=fun Ω=>match as with
 | [a]=>(match zbj Ω a with
  | some ds=>some (.ok (.int ds.length),Ω)
  | none=>none)
 | _=>none
theorem zkw:zej X W (.builtin "len") gLen:=by
 refine ⟨_,zlr,?_⟩
 intro G ι Ω H σ xs as Q w d h
 unfold gLen at h
 split at h
 ·rename_i a
  split at h
  ·rename_i ds e
   obtain ⟨x,rfl,d1⟩:=den1 d
   obtain ⟨p,ys,rfl,h2,h3⟩:=zgU w d1 e
   exact ⟨p,ys,rfl,h2,h _ H G ι (Ext.refl _ _) w (by simp only [Den,h3.length])⟩
  ·exact False.elim h
 ·exact False.elim h
@[simp] def zn6 (as:List A):Mo A:=match as with
 | [.int i, .int j]=>ret (.int (max i j))
 | _=>stuck
@[simp] def zof (as:List A):Mo A:=match as with
 | [.int i, .int j]=>ret (.int (min i j))
 | _=>stuck
theorem zny (hc:X.calm=true):zej X W (.builtin "max") zn6:=by
 refine ⟨_,zpu hc,?_⟩
 intro G ι Ω H σ xs as Q w d h
 unfold zn6 at h
 split at h
 ·rename_i i j
  obtain ⟨x,y,rfl,d1,d2⟩:=den2 d
  simp only [Den] at d1 d2;subst d1 d2
  refine ⟨i,j,rfl,?_⟩
  have e:(if j > i then j else i)=max i j:=by split <;> omega
  rw [e]
  exact zbN w (by simp only [Den]) h
 ·exact False.elim h
theorem znv (hc:X.calm=true):zej X W (.builtin "min") zof:=by
 refine ⟨_,zpe hc,?_⟩
 intro G ι Ω H σ xs as Q w d h
 unfold zof at h
 split at h
 ·rename_i i j
  obtain ⟨x,y,rfl,d1,d2⟩:=den2 d
  simp only [Den] at d1 d2;subst d1 d2
  refine ⟨i,j,rfl,?_⟩
  have e:(if j < i then j else i)=min i j:=by split <;> omega
  rw [e]
  exact zbN w (by simp only [Den]) h
 ·exact False.elim h
def intsOf:List A→Option (List Int)
 | []=>some []
 | .int i :: r=>(intsOf r).map (i :: ·)
 | _=>none
theorem zgX {K:PySem.W.Frag} {G:Hp} {ι:List Addr}:∀ {ds:List A} {xs:List V} {ns:List Int},intsOf ds=some ns→DenL K G ι xs ds→xs=ns.map V.int
 | [],xs,ns,h,d=>by
  simp only [intsOf,Option.some.injEq] at h;subst h
  rw [zbh] at d;subst d;rfl
 | a :: ds,xs,ns,h,d=>by
  obtain ⟨x,t,rfl,d1,d2⟩:=d.zcn
  cases a with
  | int i =>
   simp only [intsOf,Option.map_eq_some_iff] at h
   obtain ⟨ms,h1,rfl⟩:=h
   simp only [Den] at d1;subst d1
   rw [zgX h1 d2];rfl
  | _=>simp [intsOf] at h
theorem zeJ (ns:List Int):intsOf (ns.map A.int)=some ns:=by
 induction ns with
 | nil=>rfl
 | cons n ns ih=>simp [intsOf,ih]
@[simp] def gSum (as:List A):Mo A:=fun Ω=>match as with
 | [a]=>(match (zaG Ω a).bind intsOf with
  | some ns=>some (.ok (.int ns.sum),Ω)
  | none=>none)
 | _=>none
theorem zq4 (hc:X.calm=true):zej X W (.builtin "sum") gSum:=by
 refine ⟨_,zry hc,?_⟩
 intro G ι Ω H σ xs as Q w d h
 unfold gSum at h
 split at h
 ·rename_i a
  split at h
  ·rename_i ns e
   obtain ⟨x,rfl,d1⟩:=den1 d
   rw [Option.bind_eq_some_iff] at e
   obtain ⟨ds,e1,e2⟩:=e
   obtain ⟨p,ys,rfl,h2,h3⟩:=zby w d1 e1
   rw [zgX e2 h3] at h2
   exact ⟨p,ns,rfl,h2,h _ H G ι (Ext.refl _ _) w (by simp only [Den])⟩
  ·exact False.elim h
 ·exact False.elim h
@[simp] def zoh (c:Bool) (as:List A):Mo A:=fun Ω=>match as with
 | [a]=>(match zbj Ω a with
  | some ds=>mkL c ds Ω
  | none=>none)
 | _=>none
theorem zsi (c:Bool):zej X W (.type "list") (zoh c):=by
 refine ⟨_,zlb,?_⟩
 intro G ι Ω H σ xs as Q w d h
 unfold zoh at h
 split at h
 ·rename_i a
  split at h
  ·rename_i ds e
   obtain ⟨x,rfl,d1⟩:=den1 d
   obtain ⟨p,ys,rfl,h2,h3⟩:=zgU w d1 e
   exact ⟨p,ys,rfl,h2,fun l hl=>zgP w hl h3 h⟩
  ·exact False.elim h
 ·exact False.elim h
def tyA (Ω:Sto):A→Option String
 | .int _=>some "int"
 | .bl _=>some "bool"
 | .str _=>some "str"
 | .non=>some "NoneType"
 | .tup _=>some "tuple"
 | .lst _=>some "list"
 | .cel k=>match Ω[k]? with
  | some (.lst _)=>some "list"
  | some (.dct _)=>some "dict"
  | _=>none
 | _=>none
theorem zvN {K:PySem.W.Frag} {G H:Hp} {ι:List Addr} {Ω:Sto} {v:V} {a:A} {t:String} (w:Wd K G ι Ω H) (d:Den K G ι v a) (h:tyA Ω a=some t):TyOf K H v (.type t):=by
 cases a with
 | int i=>simp only [tyA,Option.some.injEq] at h;subst h;simp only [Den] at d;subst d;exact .int i
 | bl i=>simp only [tyA,Option.some.injEq] at h;subst h;simp only [Den] at d;subst d;exact .bl i
 | str i=>simp only [tyA,Option.some.injEq] at h;subst h;simp only [Den] at d;subst d;exact .str i
 | non=>simp only [tyA,Option.some.injEq] at h;subst h;simp only [Den] at d;subst d;exact .non
 | tup ds=>simp only [tyA,Option.some.injEq] at h;subst h;simp only [Den] at d;obtain ⟨p,xs,rfl,h2,_⟩:=d;exact .tup (w.sub _ _ h2)
 | lst ds=>simp only [tyA,Option.some.injEq] at h;subst h;simp only [Den] at d;obtain ⟨p,xs,rfl,h2,_⟩:=d;exact .lst (w.sub _ _ h2)
 | cel k =>
  simp only [Den] at d
  obtain ⟨p,rfl,hk⟩:=d
  simp only [tyA] at h
  split at h
  ·rename_i ds e
   cases h
   obtain ⟨g,xs,h3,_⟩:=w.cel k _ p e hk
   exact .lst h3
  ·rename_i ds e
   cases h
   obtain ⟨g,xs,h3,_⟩:=w.cel k _ p e hk
   exact .dK h3
  ·cases h
 | _=>simp [tyA] at h
theorem zhK (K:PySem.W.Frag):PySem.W.kitOne K (.type "int") (.type "int")=some true:=by unfold PySem.W.kitOne;rw [if_pos (beq_self_eq_true _)]
theorem zgM (K:PySem.W.Frag):PySem.W.kitOne K (.type "bool") (.type "int")=some true:=by kernel_rfl
theorem zhM (K:PySem.W.Frag):PySem.W.kitOne K (.type "str") (.type "int")=some false:=by kernel_rfl
theorem zem (K:PySem.W.Frag):PySem.W.kitOne K (.type "NoneType") (.type "int")=some false:=by kernel_rfl
theorem zf3 (K:PySem.W.Frag):PySem.W.kitOne K (.type "tuple") (.type "int")=some false:=by kernel_rfl
theorem zgD (K:PySem.W.Frag):PySem.W.kitOne K (.type "list") (.type "int")=some false:=by kernel_rfl
theorem zgu (K:PySem.W.Frag):PySem.W.kitOne K (.type "int") (.type "bool")=some false:=by kernel_rfl
theorem zfy (K:PySem.W.Frag):PySem.W.kitOne K (.type "bool") (.type "bool")=some true:=by unfold PySem.W.kitOne;rw [if_pos (beq_self_eq_true _)]
theorem zgt (K:PySem.W.Frag):PySem.W.kitOne K (.type "str") (.type "bool")=some false:=by kernel_rfl
theorem zdR (K:PySem.W.Frag):PySem.W.kitOne K (.type "NoneType") (.type "bool")=some false:=by kernel_rfl
theorem zeX (K:PySem.W.Frag):PySem.W.kitOne K (.type "tuple") (.type "bool")=some false:=by kernel_rfl
theorem zfU (K:PySem.W.Frag):PySem.W.kitOne K (.type "list") (.type "bool")=some false:=by kernel_rfl
theorem zfw (K:PySem.W.Frag):PySem.W.kitOne K (.type "int") (.type "tuple")=some false:=by kernel_rfl
theorem ze6 (K:PySem.W.Frag):PySem.W.kitOne K (.type "bool") (.type "tuple")=some false:=by kernel_rfl
theorem zfo (K:PySem.W.Frag):PySem.W.kitOne K (.type "str") (.type "tuple")=some false:=by kernel_rfl
theorem zds (K:PySem.W.Frag):PySem.W.kitOne K (.type "NoneType") (.type "tuple")=some false:=by kernel_rfl
theorem zeD (K:PySem.W.Frag):PySem.W.kitOne K (.type "tuple") (.type "tuple")=some true:=by unfold PySem.W.kitOne;rw [if_pos (beq_self_eq_true _)]
theorem zfc (K:PySem.W.Frag):PySem.W.kitOne K (.type "list") (.type "tuple")=some false:=by kernel_rfl
theorem zgx (K:PySem.W.Frag):PySem.W.kitOne K (.type "int") (.type "list")=some false:=by kernel_rfl
theorem zfY (K:PySem.W.Frag):PySem.W.kitOne K (.type "bool") (.type "list")=some false:=by kernel_rfl
theorem zgy (K:PySem.W.Frag):PySem.W.kitOne K (.type "str") (.type "list")=some false:=by kernel_rfl
theorem zdV (K:PySem.W.Frag):PySem.W.kitOne K (.type "NoneType") (.type "list")=some false:=by kernel_rfl
theorem ze1 (K:PySem.W.Frag):PySem.W.kitOne K (.type "tuple") (.type "list")=some false:=by kernel_rfl
theorem zfA (K:PySem.W.Frag):PySem.W.kitOne K (.type "list") (.type "list")=some true:=by unfold PySem.W.kitOne;rw [if_pos (beq_self_eq_true _)]
theorem zhx (K:PySem.W.Frag):PySem.W.kitOne K (.type "int") (.type "str")=some false:=by kernel_rfl
theorem zgw (K:PySem.W.Frag):PySem.W.kitOne K (.type "bool") (.type "str")=some false:=by kernel_rfl
theorem zhp (K:PySem.W.Frag):PySem.W.kitOne K (.type "str") (.type "str")=some true:=by unfold PySem.W.kitOne;rw [if_pos (beq_self_eq_true _)]
theorem zec (K:PySem.W.Frag):PySem.W.kitOne K (.type "NoneType") (.type "str")=some false:=by kernel_rfl
theorem zfx (K:PySem.W.Frag):PySem.W.kitOne K (.type "tuple") (.type "str")=some false:=by kernel_rfl
theorem zgC (K:PySem.W.Frag):PySem.W.kitOne K (.type "list") (.type "str")=some false:=by kernel_rfl
inductive TyP:String→String→Bool→Prop where
 | zhK:TyP "int" "int" true
 | zgM:TyP "bool" "int" true
 | zhM:TyP "str" "int" false
 | zem:TyP "NoneType" "int" false
 | zf3:TyP "tuple" "int" false
 | zgD:TyP "list" "int" false
 | zgu:TyP "int" "bool" false
 | zfy:TyP "bool" "bool" true
 | zgt:TyP "str" "bool" false
 | zdR:TyP "NoneType" "bool" false
 | zeX:TyP "tuple" "bool" false
 | zfU:TyP "list" "bool" false
 | zfw:TyP "int" "tuple" false
 | ze6:TyP "bool" "tuple" false
 | zfo:TyP "str" "tuple" false
 | zds:TyP "NoneType" "tuple" false
 | zeD:TyP "tuple" "tuple" true
 | zfc:TyP "list" "tuple" false
 | zgx:TyP "int" "list" false
 | zfY:TyP "bool" "list" false
 | zgy:TyP "str" "list" false
 | zdV:TyP "NoneType" "list" false
 | ze1:TyP "tuple" "list" false
 | zfA:TyP "list" "list" true
 | zhx:TyP "int" "str" false
 | zgw:TyP "bool" "str" false
 | zhp:TyP "str" "str" true
 | zec:TyP "NoneType" "str" false
 | zfx:TyP "tuple" "str" false
 | zgC:TyP "list" "str" false
theorem TyP.ok (K:PySem.W.Frag) {t n:String} {b:Bool} (h:TyP t n b):PySem.W.kitOne K (.type t) (.type n)=some b:=by
 cases h
 ·exact V2.zhK K
 ·exact V2.zgM K
 ·exact V2.zhM K
 ·exact V2.zem K
 ·exact V2.zf3 K
 ·exact V2.zgD K
 ·exact V2.zgu K
 ·exact V2.zfy K
 ·exact V2.zgt K
 ·exact V2.zdR K
 ·exact V2.zeX K
 ·exact V2.zfU K
 ·exact V2.zfw K
 ·exact V2.ze6 K
 ·exact V2.zfo K
 ·exact V2.zds K
 ·exact V2.zeD K
 ·exact V2.zfc K
 ·exact V2.zgx K
 ·exact V2.zfY K
 ·exact V2.zgy K
 ·exact V2.zdV K
 ·exact V2.ze1 K
 ·exact V2.zfA K
 ·exact V2.zhx K
 ·exact V2.zgw K
 ·exact V2.zhp K
 ·exact V2.zec K
 ·exact V2.zfx K
 ·exact V2.zgC K
def isTy (t n:String):Option Bool:=if t = "int"∧n = "int" then some true else if t = "bool"∧n = "int" then some true else if t = "str"∧n = "int" then some false else if t = "NoneType"∧n = "int" then some false else if t = "tuple"∧n = "int" then some false else if t = "list"∧n = "int" then some false else if t = "int"∧n = "bool" then some false else if t = "bool"∧n = "bool" then some true else if t = "str"∧n = "bool" then some false else if t = "NoneType"∧n = "bool" then some false else if t = "tuple"∧n = "bool" then some false else if t = "list"∧n = "bool" then some false else if t = "int"∧n = "tuple" then some false else if t = "bool"∧n = "tuple" then some false else if t = "str"∧n = "tuple" then some false else if t = "NoneType"∧n = "tuple" then some false else if t = "tuple"∧n = "tuple" then some true else if t = "list"∧n = "tuple" then some false else if t = "int"∧n = "list" then some false else if t = "bool"∧n = "list" then some false else if t = "str"∧n = "list" then some false else if t = "NoneType"∧n = "list" then some false else if t = "tuple"∧n = "list" then some false else if t = "list"∧n = "list" then some true else if t = "int"∧n = "str" then some false else if t = "bool"∧n = "str" then some false else if t = "str"∧n = "str" then some true else if t = "NoneType"∧n = "str" then some false else if t = "tuple"∧n = "str" then some false else if t = "list"∧n = "str" then some false else none
theorem zvy {t n:String} {b:Bool} (h:isTy t n=some b):TyP t n b:=by
 unfold isTy at h
 by_cases h0:t = "int"∧n = "int"
 ·rw [if_pos h0] at h;cases h;obtain ⟨rfl,rfl⟩:=h0;exact .zhK
 rw [if_neg h0] at h
 by_cases h1:t = "bool"∧n = "int"
 ·rw [if_pos h1] at h;cases h;obtain ⟨rfl,rfl⟩:=h1;exact .zgM
 rw [if_neg h1] at h
 by_cases h2:t = "str"∧n = "int"
 ·rw [if_pos h2] at h;cases h;obtain ⟨rfl,rfl⟩:=h2;exact .zhM
 rw [if_neg h2] at h
 by_cases h3:t = "NoneType"∧n = "int"
 ·rw [if_pos h3] at h;cases h;obtain ⟨rfl,rfl⟩:=h3;exact .zem
 rw [if_neg h3] at h
 by_cases h4:t = "tuple"∧n = "int"
 ·rw [if_pos h4] at h;cases h;obtain ⟨rfl,rfl⟩:=h4;exact .zf3
 rw [if_neg h4] at h
 by_cases h5:t = "list"∧n = "int"
 ·rw [if_pos h5] at h;cases h;obtain ⟨rfl,rfl⟩:=h5;exact .zgD
 rw [if_neg h5] at h
 by_cases h6:t = "int"∧n = "bool"
 ·rw [if_pos h6] at h;cases h;obtain ⟨rfl,rfl⟩:=h6;exact .zgu
 rw [if_neg h6] at h
 by_cases h7:t = "bool"∧n = "bool"
 ·rw [if_pos h7] at h;cases h;obtain ⟨rfl,rfl⟩:=h7;exact .zfy
 rw [if_neg h7] at h
 by_cases h8:t = "str"∧n = "bool"
 ·rw [if_pos h8] at h;cases h;obtain ⟨rfl,rfl⟩:=h8;exact .zgt
 rw [if_neg h8] at h
 by_cases h9:t = "NoneType"∧n = "bool"
 ·rw [if_pos h9] at h;cases h;obtain ⟨rfl,rfl⟩:=h9;exact .zdR
 rw [if_neg h9] at h
 by_cases h10:t = "tuple"∧n = "bool"
 ·rw [if_pos h10] at h;cases h;obtain ⟨rfl,rfl⟩:=h10;exact .zeX
 rw [if_neg h10] at h
 by_cases h11:t = "list"∧n = "bool"
 ·rw [if_pos h11] at h;cases h;obtain ⟨rfl,rfl⟩:=h11;exact .zfU
 rw [if_neg h11] at h
 by_cases h12:t = "int"∧n = "tuple"
 ·rw [if_pos h12] at h;cases h;obtain ⟨rfl,rfl⟩:=h12;exact .zfw
 rw [if_neg h12] at h
 by_cases h13:t = "bool"∧n = "tuple"
 ·rw [if_pos h13] at h;cases h;obtain ⟨rfl,rfl⟩:=h13;exact .ze6
 rw [if_neg h13] at h
 by_cases h14:t = "str"∧n = "tuple"
 ·rw [if_pos h14] at h;cases h;obtain ⟨rfl,rfl⟩:=h14;exact .zfo
 rw [if_neg h14] at h
 by_cases h15:t = "NoneType"∧n = "tuple"
 ·rw [if_pos h15] at h;cases h;obtain ⟨rfl,rfl⟩:=h15;exact .zds
 rw [if_neg h15] at h
 by_cases h16:t = "tuple"∧n = "tuple"
 ·rw [if_pos h16] at h;cases h;obtain ⟨rfl,rfl⟩:=h16;exact .zeD
 rw [if_neg h16] at h
 by_cases h17:t = "list"∧n = "tuple"
 ·rw [if_pos h17] at h;cases h;obtain ⟨rfl,rfl⟩:=h17;exact .zfc
 rw [if_neg h17] at h
 by_cases h18:t = "int"∧n = "list"
 ·rw [if_pos h18] at h;cases h;obtain ⟨rfl,rfl⟩:=h18;exact .zgx
 rw [if_neg h18] at h
 by_cases h19:t = "bool"∧n = "list"
 ·rw [if_pos h19] at h;cases h;obtain ⟨rfl,rfl⟩:=h19;exact .zfY
 rw [if_neg h19] at h
 by_cases h20:t = "str"∧n = "list"
 ·rw [if_pos h20] at h;cases h;obtain ⟨rfl,rfl⟩:=h20;exact .zgy
 rw [if_neg h20] at h
 by_cases h21:t = "NoneType"∧n = "list"
 ·rw [if_pos h21] at h;cases h;obtain ⟨rfl,rfl⟩:=h21;exact .zdV
 rw [if_neg h21] at h
 by_cases h22:t = "tuple"∧n = "list"
 ·rw [if_pos h22] at h;cases h;obtain ⟨rfl,rfl⟩:=h22;exact .ze1
 rw [if_neg h22] at h
 by_cases h23:t = "list"∧n = "list"
 ·rw [if_pos h23] at h;cases h;obtain ⟨rfl,rfl⟩:=h23;exact .zfA
 rw [if_neg h23] at h
 by_cases h24:t = "int"∧n = "str"
 ·rw [if_pos h24] at h;cases h;obtain ⟨rfl,rfl⟩:=h24;exact .zhx
 rw [if_neg h24] at h
 by_cases h25:t = "bool"∧n = "str"
 ·rw [if_pos h25] at h;cases h;obtain ⟨rfl,rfl⟩:=h25;exact .zgw
 rw [if_neg h25] at h
 by_cases h26:t = "str"∧n = "str"
 ·rw [if_pos h26] at h;cases h;obtain ⟨rfl,rfl⟩:=h26;exact .zhp
 rw [if_neg h26] at h
 by_cases h27:t = "NoneType"∧n = "str"
 ·rw [if_pos h27] at h;cases h;obtain ⟨rfl,rfl⟩:=h27;exact .zec
 rw [if_neg h27] at h
 by_cases h28:t = "tuple"∧n = "str"
 ·rw [if_pos h28] at h;cases h;obtain ⟨rfl,rfl⟩:=h28;exact .zfx
 rw [if_neg h28] at h
 by_cases h29:t = "list"∧n = "str"
 ·rw [if_pos h29] at h;cases h;obtain ⟨rfl,rfl⟩:=h29;exact .zgC
 rw [if_neg h29] at h
 cases h
theorem zsK (K:PySem.W.Frag) {t n:String} {b:Bool} (h:isTy t n=some b):PySem.W.kitOne K (.type t) (.type n)=some b:=(zvy h).ok K
@[simp] def gIs1 (as:List A):Mo A:=fun Ω=>match as with
 | [a, .ty n]=>(match (tyA Ω a).bind fun t=>isTy t n with
  | some b=>some (.ok (.bl b),Ω)
  | none=>none)
 | _=>none
theorem zrD:zej X W (.builtin "isinstance") gIs1:=by
 refine ⟨_,zmp,?_⟩
 intro G ι Ω H σ xs as Q w d h
 unfold gIs1 at h
 split at h
 ·rename_i a n
  split at h
  ·rename_i b e
   rw [Option.bind_eq_some_iff] at e
   obtain ⟨t,e1,e2⟩:=e
   obtain ⟨x,y,rfl,d1,d2⟩:=den2 d
   simp only [Den] at d2;subst d2
   exact ⟨x,n,_,b,rfl,zvN w d1 e1,zsK _ e2,h _ H G ι (Ext.refl _ _) w (by simp only [Den])⟩
  ·exact False.elim h
 ·exact False.elim h
def MtV (K:PySem.W.Frag) (W:WX) (r:V→List V→Hp→VK→Prop) (g:A→List A→Mo A):Prop :=
 ∀ G ι Ω H σ x xs a as Q,Wd K G ι Ω H→Den K G ι x a→DenL K G ι xs as→Post K (Den K) W G ι σ Q (g a as Ω)→r x xs H Q
def isL (Ω:Sto) (a:A):Prop:=∃ ds,zaG Ω a=some ds
open Classical in
@[simp] noncomputable def vBM (g:A→List A→Mo A) (fo:Ev→Mo A) (f:Ev→Mo (List A)):Ev→Mo A:=fun ρ=>mb (fo ρ) fun o Ω=>if isL Ω o then mb (f ρ) (fun as=>g o as) Ω else none
theorem zrs {K:PySem.W.Frag} {G H:Hp} {ι:List Addr} {Ω:Sto} {v:V} {a:A} (w:Wd K G ι Ω H) (d:Den K G ι v a) (h:isL Ω a):tyV K "list" v H:=by
 obtain ⟨ds,e⟩:=h
 obtain ⟨p,xs,rfl,q,_⟩:=zby w d e
 exact .inl ⟨rfl,xs,q⟩
theorem zsL {name:Str} {apos:Pos} {id:String} {r:V→List V→Hp→VK→Prop} {g:A→List A→Mo A} (pa:PlainAttrs "list") (slot:Slot "list" name id) (hty:typeOf (.builtin id)=pure (.type "method_descriptor")) (hm:MtR X id r) (hv:MtV X.K W r g) (ho:VE X W a fa) (ha:VA X W (e :: es) fs)
  (hbase:attributeBase a name X.env (eval a X.env)=eval a X.env:=by rfl)
  (hfew:((backTo pos (starEach (e :: es) X.env)).all (fun x=>!x.1) && (backToKw pos (keywordEach [] X.env)).all (fun x=>x.1.isSome)
   && decide ((e :: es).length + ([] : List Keyword).length + (if ([] : List Keyword).isEmpty then 0 else 1) < 30))=true:=by rfl)
  (hline:(apos.endLine == pos.line)=true:=by rfl) (hs:starEach (e :: es) X.env=(false,eval e X.env) :: starEach es X.env:=by rfl) (hplain:(backTo pos (starEach es X.env)).any (·.1)=false:=by rfl) :
  VE X W (.Call (.Attribute a name apos) (e :: es) [] pos) (vBM g fa fs):=by
 obtain ⟨t,p1,s1⟩:=ho
 obtain ⟨u,p2,s2⟩:=ha
 refine ⟨_,zwk pa slot hty hm p1 p2 hbase hfew hline hs hplain,fun G ι Ω H σ ρ Q w r h=>?_⟩
 refine s1 G ι Ω H σ ρ _ w r (Post.mb h fun x Ω1 v H1 G1 ι1 x1 w1 d1 h1=>?_)
 split at h1
 ·rename_i hl
  refine ⟨zrs w1 d1 hl,s2 G1 ι1 Ω1 H1 σ ρ _ w1 (r.ext x1) (Post.mb h1 fun as Ω2 vs H2 G2 ι2 x2 w2 d2 h2=>?_)⟩
  exact hv G2 ι2 Ω2 H2 σ v vs x as Q w2 (d1.ext x2) d2 h2
 ·exact False.elim h1
def zju (Ω:Sto):A→Option (Nat × List A)
 | .cel k=>match Ω[k]? with
  | some (.lst ds)=>some (k,ds)
  | _=>none
 | _=>none
theorem zrK {K:PySem.W.Frag} {G H:Hp} {ι:List Addr} {Ω:Sto} {v:V} {a:A} {k:Nat} {ds:List A} (w:Wd K G ι Ω H) (d:Den K G ι v a) (h:zju Ω a=some (k,ds)):∃ p xs,v = .ref p∧ι[k]? = some p∧G p=none∧H p=some (.lst xs)∧DenL K G ι xs ds:=by
 cases a with
 | cel j =>
  simp only [zju] at h
  split at h
  ·rename_i es e
   cases h
   simp only [Den] at d
   obtain ⟨p,rfl,hk⟩:=d
   obtain ⟨g,xs,h3,h4⟩:=w.cel k _ p e hk
   exact ⟨p,xs,rfl,hk,g,h3,h4⟩
  ·cases h
 | _=>simp [zju] at h
@[simp] def ziV (o:A) (as:List A):Mo A:=fun Ω=>match zju Ω o,as with
 | some (k,ds),[y]=>if ds.length < sizeLine then some (.ok .non,Ω.set k (.lst (ds ++ [y]))) else none
 | _,_=>none
theorem zkO:MtV X.K W zps ziV:=by
 intro G ι Ω H σ x xs a as Q w d1 d2 h
 unfold ziV at h
 split at h
 ·rename_i k ds y e
  split at h
  ·rename_i hl
   obtain ⟨p,zs,rfl,hk,g,h3,h4⟩:=zrK w d1 e
   obtain ⟨u,rfl,du⟩:=den1 d2
   refine ⟨p,zs,u,rfl,rfl,h3,by rw [h4.length];exact hl,?_⟩
   exact h _ _ G ι (Ext.refl _ _) (w.put (c := .lst (ds ++ [y])) hk g ⟨g,_,zaI,h4.append (.cons du .nil)⟩) (by simp only [Den])
  ·exact False.elim h
 ·exact False.elim h
end
end V2
namespace V2
open PySem PySem.Spec PyProof.Rows L2
mutual
def Cl (n:Nat):A→Prop
 | .cel k=>k < n
 | .tup ds=>ClL n ds
 | .lst ds=>ClL n ds
 | _=>True
def ClL (n:Nat):List A→Prop
 | []=>True
 | d :: ds=>Cl n d∧ClL n ds
end
section
variable {K:PySem.W.Frag} {G:Hp} {ι:List Addr}
mutual
theorem Den.cl:∀ {v:V} {d:A},Den K G ι v d→Cl ι.length d
 | _, .int _,_=>by simp only [Cl]
 | _, .bl _,_=>by simp only [Cl]
 | _, .str _,_=>by simp only [Cl]
 | _, .non,_=>by simp only [Cl]
 | _, .ty _,_=>by simp only [Cl]
 | _, .adr _,_=>by simp only [Cl]
 | _, .exn _ _ _ _,_=>by simp only [Cl]
 | _, .gl _,_=>by simp only [Cl]
 | _, .scr _,_=>by simp only [Cl]
 | _, .tup ds,h=>by
  simp only [Den] at h;simp only [Cl]
  obtain ⟨a,xs,_,_,h3⟩:=h
  exact DenL.cl h3
 | _, .lst ds,h=>by
  simp only [Den] at h;simp only [Cl]
  obtain ⟨a,xs,_,_,h3⟩:=h
  exact DenL.cl h3
 | _, .cel k,h=>by
  simp only [Den] at h;simp only [Cl]
  obtain ⟨a,_,h2⟩:=h
  exact (List.getElem?_eq_some_iff.mp h2).1
theorem DenL.cl:∀ {xs:List V} {ds:List A},DenL K G ι xs ds→ClL ι.length ds
 | _,[],_=>by simp only [ClL]
 | _,d :: ds,h=>by
  simp only [DenL] at h;simp only [ClL]
  obtain ⟨x,r,_,h2,h3⟩:=h
  exact ⟨Den.cl h2,DenL.cl h3⟩
end
mutual
theorem Den.cut {ι':List Addr} {n:Nat} (e:∀ k,k < n→ι[k]? = ι'[k]?):∀ {v:V} {d:A},Den K G ι' v d→Cl n d→Den K G ι v d
 | _, .int _,h,_=>by simpa only [Den] using h
 | _, .bl _,h,_=>by simpa only [Den] using h
 | _, .str _,h,_=>by simpa only [Den] using h
 | _, .non,h,_=>by simpa only [Den] using h
 | _, .ty _,h,_=>by simpa only [Den] using h
 | _, .adr _,h,_=>by simpa only [Den] using h
 | _, .exn _ _ _ _,h,_=>by simpa only [Den] using h
 | _, .gl _,h,_=>by simpa only [Den] using h
 | _, .scr _,h,_=>by simpa only [Den] using h
 | _, .tup ds,h,c=>by
  simp only [Den] at h ⊢;simp only [Cl] at c
  obtain ⟨a,xs,h1,h2,h3⟩:=h
  exact ⟨a,xs,h1,h2,DenL.cut e h3 c⟩
 | _, .lst ds,h,c=>by
  simp only [Den] at h ⊢;simp only [Cl] at c
  obtain ⟨a,xs,h1,h2,h3⟩:=h
  exact ⟨a,xs,h1,h2,DenL.cut e h3 c⟩
 | _, .cel k,h,c=>by
  simp only [Den] at h ⊢;simp only [Cl] at c
  obtain ⟨a,h1,h2⟩:=h
  exact ⟨a,h1,(e k c).trans h2⟩
theorem DenL.cut {ι':List Addr} {n:Nat} (e:∀ k,k < n→ι[k]? = ι'[k]?):∀ {xs:List V} {ds:List A},DenL K G ι' xs ds→ClL n ds→DenL K G ι xs ds
 | _,[],h,_=>by simpa only [DenL] using h
 | _,d :: ds,h,c=>by
  simp only [DenL] at h ⊢;simp only [ClL] at c
  obtain ⟨x,r,h1,h2,h3⟩:=h
  exact ⟨x,r,h1,Den.cut e h2 c.1,DenL.cut e h3 c.2⟩
end
theorem Ext.cut {G':Hp} {ι':List Addr} (e:Ext G ι G' ι'):∀ k,k < ι.length→ι[k]? = ι'[k]?:=fun k hk=>by
 rw [List.getElem?_eq_getElem hk,e.pre k _ (List.getElem?_eq_getElem hk)]
theorem Wd.cut {G' H H':Hp} {ι':List Addr} {Ω Ω':Sto} (w:Wd K G ι Ω H) (w':Wd K G' ι' Ω' H') (e:Ext G ι G' ι') (ht:Ω'.take Ω.length=Ω):Wd K G' ι Ω H' where
 sub:=w'.sub
 inj:=w.inj
 len:=w.len
 live:=fun a ha=>by
  obtain ⟨k,hk,ea⟩:=List.getElem_of_mem ha
  exact w'.live a (List.mem_of_getElem? (e.pre k a (by rw [← ea];exact List.getElem?_eq_getElem hk)))
 cel:=fun k c a h1 h2=>by
  have hk:k < Ω.length:=(List.getElem?_eq_some_iff.mp h1).1
  have h1':Ω'[k]? = some c:=by
   rw [← ht,List.getElem?_take] at h1
   rw [if_pos hk] at h1;exact h1
  have q:=w'.cel k c a h1' (e.pre k a h2)
  have q0:=w.cel k c a h1 h2
  cases c with
  | lst ds =>
   obtain ⟨g,xs,h3,h4⟩:=q
   obtain ⟨_,_,_,h5⟩:=q0
   exact ⟨g,xs,h3,h4.cut e.cut h5.cl⟩
  | dct kvs =>
   obtain ⟨g,ws,h3,h4,h5⟩:=q
   obtain ⟨_,_,_,_,h6⟩:=q0
   exact ⟨g,ws,h3,h4,h5.cut e.cut h6.cl⟩
  | ins C fs =>
   obtain ⟨g,dx,ws,h3,h4,h5⟩:=q
   obtain ⟨_,_,_,_,_,h6⟩:=q0
   exact ⟨g,dx,ws,h3,h4,h5.cut e.cut h6.cl⟩
  | tab x pos qual=>exact q
  | dead=>trivial
end
open Classical in
noncomputable def trim (Ω:Sto):Option (Rs A × Sto)→Option (Rs A × Sto)
 | some (.ok a,Ω')=>if Ω'.take Ω.length=Ω∧Cl Ω.length a then some (.ok a,Ω) else some (.ok a,Ω')
 | some (.exc x,Ω')=>if Ω'.take Ω.length=Ω∧ClL Ω.length (x.fs.map (·.2)) then some (.exc x,Ω) else some (.exc x,Ω')
 | none=>none
theorem ztH {K:PySem.W.Frag} {W:WX} {G H:Hp} {ι:List Addr} {Ω:Sto} {σ:L2.St} {Q:VK} {r:Option (Rs A × Sto)} (w:Wd K G ι Ω H) (h:Post K (Den K) W G ι σ Q (trim Ω r)):Post K (Den K) W G ι σ Q r:=by
 match r,h with
 | some (.ok a,Ω'),h =>
  simp only [trim] at h
  split at h
  ·rename_i hc
   exact fun v H' G' ι' e w' d=>h v H' G' ι ⟨e.same,fun _ _ q=>q⟩ (w.cut w' e hc.1) (d.cut e.cut (by rw [w.len];exact hc.2))
  ·exact h
 | some (.exc x,Ω'),h =>
  simp only [trim] at h
  split at h
  ·rename_i hc
   intro cls dx H' G' ι' e w' d
   refine h cls dx H' G' ι ⟨e.same,fun _ _ q=>q⟩ (w.cut w' e hc.1) d
  ·exact h
@[simp] def outR:OS→Option (Rs A × Sto)
 | some (.nx,_,Ω)=>some (.ok .non,Ω)
 | some (.ret a,_,Ω)=>some (.ok a,Ω)
 | some (.exc x,_,Ω)=>some (.exc x,Ω)
 | _=>none
@[simp] def ev0 (n:Nat) (ds:List A):Ev:=ds.map some ++ List.replicate (n - ds.length) none
@[simp] noncomputable def fnF (n:Nat) (b:MS):List A→Mo A:=fun ds Ω=>trim Ω (outR (b (ev0 n ds) Ω))
def spV (K:PySem.W.Frag) (n:Nat) (F:List A→Mo A):Sp:=fun vs H Q E=>vs.length=n∧∃ G ι Ω ds,Wd K G ι Ω H∧DenL K G ι vs ds∧Post K (Den K) (fun _=>E) G ι [] Q (F ds Ω)
abbrev DefV (P:Program) (w:World) (K:PySem.W.Frag) (mg:Str→Option Value) (base:Heap) (x:Str) (k:Nat) (ps:List Str) (F:List A→Mo A):Prop:=DefX P w K mg base x k ps (spV K ps.length F)
theorem zpc {K:PySem.W.Frag} {G:Hp} {ι:List Addr} {N:List Str} {vs:List V} {ds:List A} (d:DenL K G ι vs ds):EnvR K G ι (L2.start N vs) (ev0 N.length ds):=by
 unfold L2.start ev0
 have hl:=d.length
 refine ⟨by simp [hl],fun i a h=>?_⟩
 by_cases hi:i < ds.length
 ·rw [List.getElem?_append_left (by simpa using hi)] at h
  rw [List.getElem?_map] at h
  cases e:ds[i]? with
  | none=>rw [e] at h;cases h
  | some a' =>
   rw [e] at h
   cases h
   obtain ⟨v,q1,q2⟩:=d.get e
   refine ⟨v,?_,q2⟩
   rw [List.getElem?_append_left (by simp;omega),List.getElem?_map,q1]
   rfl
 ·rw [List.getElem?_append_right (by simpa using hi)] at h
  have:=List.mem_of_getElem? h
  simp at this
theorem zmH {K:PySem.W.Frag} {N:List Str} {t:TS} {b:MS} {H:Hp} {vs:List V} {Q:VK} {E:XK} {n:Nat} (s:SimS K (fun _=>E) t b) (h:spV K n (fnF N.length b) vs H Q E):t { nx:=fun _ H'=>Q .non H',rt:=Q } (L2.start N vs) H:=by
 obtain ⟨hl,G,ι,Ω,ds,w,d,q⟩:=h
 refine s G ι Ω H _ (ev0 N.length ds) _ w (zpc d) ?_
 have q':=ztH w q
 revert q'
 generalize b (ev0 N.length ds) Ω=r
 intro q'
 match r,q' with
 | some (.nx,ρ',Ω'),q'=>exact fun σ' H' G' ι' e w' r'=>q' .non H' G' ι' e w' (by simp only [Den])
 | some (.ret a,ρ',Ω'),q'=>exact fun σ' H' G' ι' e w' r' v d'=>q' v H' G' ι' e w' d'
 | some (.exc x,ρ',Ω'),q'=>exact fun σ' H' G' ι' e w' r' cls dx d'=>q' cls dx H' G' ι' e w' d'
 | some (.bk,ρ',Ω'),q'=>exact False.elim q'
 | some (.ct,ρ',Ω'),q'=>exact False.elim q'
section
variable {P:Program} {w:World} {K:PySem.W.Frag} {mg:Str→Option Value} {base:Heap}
theorem zsl {x:Str} {st:Stmt} {N ps:List Str} {k:Nat} {b:MS} {f:Addr} {fd:FuncData} (F:Fun K x x st f fd) (S:zaz N ps (zae st))
  (hbody:∀ (f:Addr) (cdv:Value) (A:Around) (outer:List Env) (s:Shared) (H:Hp) (E:XK),Room k (A.deeper (envOfC x (zae st) s.heap.objs.size f cdv)) →
   VSs (cxX P w K mg base N x (zae st) f cdv A outer s H E) (fun _=>E) (zap st) b):FnOk P w K mg base (CXE P w) (k + 1) f fd ps (spV K ps.length (fnF N.length b)):=by
 obtain ⟨oc,od,kV,doc,pm,an,cdv,ct,osl,rfl,lk,hcd⟩:=F.ex
 refine ztS lk hcd S (fun vs H Q E h=>h.1) fun A outer s H vs Q E hr hsp=>?_
 obtain ⟨t,p,q⟩:=hbody f cdv A outer s H E hr
 exact ⟨t,zsh p,zmH q hsp⟩
theorem DefV.of {x:Str} {st:Stmt} {N ps:List Str} {k:Nat} {b:MS} (h:HasFn K mg x st) (S:zaz N ps (zae st))
  (bind:∀ (kV doc pm:Value) (an:Option Addr) (cdv ct:Value) (us:List Value),us.length=ps.length→bindArgs (PySem.W.fnOf x x (zax st) (zap st) (zae st) .none kV doc pm an cdv ct) ⟨us,[]⟩ = pure (ps.zip us))
  (hbody:∀ (f:Addr) (cdv:Value) (A:Around) (outer:List Env) (s:Shared) (H:Hp) (E:XK),Room k (A.deeper (envOfC x (zae st) s.heap.objs.size f cdv)) →
   VSs (cxX P w K mg base N x (zae st) f cdv A outer s H E) (fun _=>E) (zap st) b):DefV P w K mg base x (k + 1) ps (fnF N.length b):=by
 obtain ⟨f,fd,hm,F⟩:=h.ex
 exact ⟨f,fd,zsl F S hbody,hm,F.kp,F.binds bind⟩
abbrev DefN (P:Program) (w:World) (K:PySem.W.Frag) (mg:Str→Option Value) (base:Heap) (x:Str) (k:Nat) (ps:List Str) (F:List A→Mo A):Prop:=Def P w K mg base x k ps (fun vs H Q _=>spV K ps.length F vs H Q fun _ _ _=>False)
theorem zo9 {k:Nat} {f:Addr} {fd:FuncData} {ps:List Str} {sp:Sp} (F:FnOk P w K mg base (CXE P w) k f fd ps sp):FnOk P w K mg base CX0 k f fd ps (fun vs H Q _=>sp vs H Q fun _ _ _=>False) :=
 ⟨fun vs H Q E h=>F.len _ _ _ _ h,fun A outer s H args us vs Q E hr e0 hb r hsp=>codeAny_mono (F.run A outer s H args us vs Q _ hr e0 hb r hsp) fun r s' hq=>by
  cases r with
  | error ev=>obtain ⟨x,cls,dx,H',_,_,_,_,_,_,q⟩:=hq;exact q.elim
  | ok fl=>cases fl <;> exact hq⟩
theorem DefV.calm {x:Str} {k:Nat} {ps:List Str} {F:List A→Mo A} (D:DefV P w K mg base x k ps F):DefN P w K mg base x k ps F:=by
 obtain ⟨f,fd,h1,h2,h3,h4⟩:=D.ex
 exact ⟨f,fd,zo9 h1,h2,h3,h4⟩
def zrO (K:PySem.W.Frag):Sp:=fun vs H Q _=>∃ (a:Addr) (ns:List Int),vs=[.ref a]∧SqL K H a (ns.map V.int)∧ns.length ≤ 63∧∀ H',Q (.bl true) H'
theorem zuY {fa:Addr} {fd:FuncData} {k:Nat} {F:List A→Mo A} (h1:FnOk P w K mg base (CXE P w) k fa fd ["_law_script"] (spV K 1 F)) (hF:∀ ns:List Int,ns.length ≤ 63→∃ Ω,F [.scr ns] []=some (.ok (.bl true),Ω)) :
  FnOk P w K mg base CX0 k fa fd ["_law_script"] (zrO K):=by
 refine (zo9 h1).imp fun vs H Q E hq=>?_
 obtain ⟨a,ns,rfl,hs,hl,q⟩:=hq
 obtain ⟨Ω,e⟩:=hF ns hl
 refine ⟨rfl,H,[],[],[.scr ns],⟨Same.refl _,List.nodup_nil,rfl,fun a ha=>by simp at ha,fun k c a h=>by simp at h⟩, .cons (by simp only [Den];exact ⟨a,rfl,hs⟩) .nil,?_⟩
 rw [e]
 intro v H' G' ι' _ _ d
 simp only [Den] at d
 subst d
 exact q H'
end
section
variable {X:Cx} {W:WX} {x:Str} {p pos:Pos} {e:Expr} {es:List Expr} {fs:Ev→Mo (List A)}
@[simp] def zaq (n:Nat) (F:List A→Mo A):List A→Mo A:=fun as=>if as.length=n then F as else stuck
theorem zo7 {K:PySem.W.Frag} {G G1:Hp} {ι ι1:List Addr} {σ:L2.St} {Q:VK} {r:Option (Rs A × Sto)} {W:WX} (h:Post K (Den K) W G ι σ Q r) (x1:Ext G ι G1 ι1):Post K (Den K) (fun _=>fun cls dx H'=>W σ cls dx H') G1 ι1 [] Q r:=by
 match r,h with
 | some (.ok a,Ω2),h=>exact fun v H' G' ι' x2 w2 d2=>h v H' G' ι' (x1.trans x2) w2 d2
 | some (.exc a,Ω2),h=>exact fun cls dx H' G' ι' x2 w2 d2=>h cls dx H' G' ι' (x1.trans x2) w2 d2
theorem zaJ {k:Nat} {ps:List Str} {F:List A→Mo A} (T:zhj X W) (D:DefV X.prog X.w X.K X.mg X.base x k ps F) (hr:Room k X.A) (hg:Gl X x) (ha:VA X W (e :: es) fs)
  (hdb:(x == ("__debug__" : Str))=false:=by decide) (he:starEach (e :: es) X.env=(false,eval e X.env) :: starEach es X.env:=by rfl) (hpl:(backTo pos (starEach es X.env)).any (·.1)=false:=by rfl):VE X W (.Call (.Name x p) (e :: es) [] pos) (vCl (zaq ps.length F) fs):=by
 obtain ⟨t,p1,s1⟩:=ha
 refine ⟨_,ztZ T D hr hg p1 hdb he hpl,fun G ι Ω H σ ρ Q w r h=>?_⟩
 refine s1 G ι Ω H σ ρ _ w r (Post.mb h fun as Ω1 vs H1 G1 ι1 x1 w1 d1 h1=>?_)
 unfold zaq at h1
 split at h1
 ·rename_i hl
  exact ⟨by rw [d1.length];exact hl,G1,ι1,Ω1,as,w1,d1,zo7 h1 (Ext.refl _ _)⟩
 ·exact False.elim h1
@[simp] def noX (F:List A→Mo A):List A→Mo A:=fun as Ω=>match F as Ω with
 | some (.exc _,_)=>none
 | r=>r
theorem ztd {k:Nat} {ps:List Str} {F:List A→Mo A} (D:DefN X.prog X.w X.K X.mg X.base x k ps F) (hr:Room k X.A) (hg:Gl X x) (ha:VA X W (e :: es) fs)
  (hdb:(x == ("__debug__" : Str))=false:=by decide) (he:starEach (e :: es) X.env=(false,eval e X.env) :: starEach es X.env:=by rfl) (hpl:(backTo pos (starEach es X.env)).any (·.1)=false:=by rfl):VE X W (.Call (.Name x p) (e :: es) [] pos) (vCl (noX (zaq ps.length F)) fs):=by
 obtain ⟨t,p1,s1⟩:=ha
 refine ⟨_,zvX D hr hg p1 hdb he hpl,fun G ι Ω H σ ρ Q w r h=>?_⟩
 refine s1 G ι Ω H σ ρ _ w r (Post.mb h fun as Ω1 vs H1 G1 ι1 x1 w1 d1 h1=>?_)
 unfold noX zaq at h1
 rw [List.append_nil]
 by_cases hl:as.length=ps.length
 ·rw [if_pos hl] at h1
  refine ⟨by rw [d1.length];exact hl,G1,ι1,Ω1,as,w1,d1,?_⟩
  revert h1
  generalize F as Ω1=q2
  intro h1
  match q2,h1 with
  | some (.ok a,Ω2),h1=>exact h1
 ·rw [if_neg hl] at h1
  exact False.elim h1
abbrev cI (i:Int):Ev→Mo A:=fun _=>ret (.int i)
abbrev cB (i:Bool):Ev→Mo A:=fun _=>ret (.bl i)
abbrev cS (i:Str):Ev→Mo A:=fun _=>ret (.str i)
abbrev cN:Ev→Mo A:=fun _=>ret .non
abbrev cT (n:String):Ev→Mo A:=fun _=>ret (.ty n)
abbrev a0:Ev→Mo (List A):=fun _=>ret []
abbrev sl0:Ev→Mo (Option Int):=fun _=>ret none
end
end V2
namespace V2
open PySem L2
section
variable {α β:Type} {Ω Ω':Sto} {a:A}
@[simp] theorem zwV (x:α) (k:α→Mo β):mb (ret x) k=k x:=rfl
theorem zuK {m:Mo α} {k:α→Mo β} {x:α} (h:m Ω=some (.ok x,Ω')):mb m k Ω=k x Ω':=by unfold mb;rw [h]
@[simp] theorem zwi (x:α) (k:α→Mo β):mb (need (some x)) k=k x:=rfl
theorem zr6 {p:Prop} [Decidable p] (k:Unit→Mo β) (h:p):mb (chk p) k=k ():=by funext Ω;simp [mb,chk,h]
@[simp] theorem zwP (x:α):(ret x:Mo α) Ω=some (.ok x,Ω):=rfl
@[simp] theorem zuD:trim Ω (some (.ok a,Ω))=some (.ok a,Ω):=by simp only [trim];split <;> rfl
theorem zjU {Δ:Sto} (h:Cl Ω.length a):trim Ω (some (.ok a,Ω ++ Δ))=some (.ok a,Ω):=by
 simp only [trim]
 rw [if_pos ⟨by simp,h⟩]
@[simp] theorem zwS (x:α) (ρ:Ev) (k:α→Sto→OS):sM (ret x) ρ k=k x:=rfl
theorem zsC {m:Mo α} {ρ:Ev} {k:α→Sto→OS} {x:α} (h:m Ω=some (.ok x,Ω')):sM m ρ k Ω=k x Ω':=by unfold sM;rw [h]
@[simp] theorem zrg (ρ:Ev):outR (some (.ret a,ρ,Ω))=some (.ok a,Ω):=rfl
@[simp] theorem zwB (ρ:Ev):outR (some (.nx,ρ,Ω))=some (.ok .non,Ω):=rfl
theorem zas {f g:MS} {ρ ρ1:Ev} (h:f ρ Ω=some (.nx,ρ1,Ω')):sSeq f g ρ Ω=g ρ1 Ω':=by unfold sSeq;rw [h]
theorem zkm {f g:MS} {ρ ρ1:Ev} (h:f ρ Ω=some (.ret a,ρ1,Ω')):sSeq f g ρ Ω=some (.ret a,ρ1,Ω'):=by unfold sSeq;rw [h]
theorem zde {α:Type} (xs:List α) (n:Nat):atI xs (n:Int)=xs[n]?:=by
 unfold atI ixN
 rw [if_pos (by omega)]
 by_cases h:(n:Int) < xs.length
 ·rw [if_pos h];simp
 ·rw [if_neg h];simp;omega
theorem zli {α:Type} (xs:List α) (n:Nat):atI xs (OfNat.ofNat n:Int)=xs[n]?:=zde xs n
theorem zrB {α:Type} (xs:List α):atI xs 0=xs[0]?:=zde xs 0
theorem ztX {α:Type} (xs:List α):atI xs 1=xs[1]?:=zde xs 1
end
@[simp] theorem zti:isTy "int" "bool" = some false:=by simp [isTy]
@[simp] theorem zuc (Ω:Sto) (ds:List A):zaG Ω (.lst ds)=some ds:=rfl
@[simp] theorem zui (Ω:Sto) (ns:List Int):zaG Ω (.scr ns)=some (ns.map A.int):=rfl
@[simp] theorem zue (Ω:Sto) (ds:List A):zaG Ω (.tup ds)=none:=rfl
@[simp] theorem zuj (Ω:Sto) (i:Int):zaG Ω (.int i)=none:=rfl
@[simp] theorem zuf (Ω:Sto) (ds:List A):zbj Ω (.lst ds)=some ds:=rfl
@[simp] theorem zud (Ω:Sto) (ns:List Int):zbj Ω (.scr ns)=some (ns.map A.int):=rfl
@[simp] theorem zuh (Ω:Sto) (ds:List A):zbj Ω (.tup ds)=some ds:=rfl
@[simp] theorem zug (Ω:Sto) (k:Nat):zbj Ω (.cel k)=zaG Ω (.cel k):=rfl
@[simp] theorem zwu (Ω:Sto) (i:Int):tyA Ω (.int i)=some "int":=rfl
@[simp] theorem zwT (Ω:Sto) (i:Bool):tyA Ω (.bl i)=some "bool":=rfl
@[simp] theorem zwe (Ω:Sto) (i:Str):tyA Ω (.str i)=some "str":=rfl
@[simp] theorem zwM (Ω:Sto):tyA Ω .non=some "NoneType":=rfl
@[simp] theorem zwI (Ω:Sto) (ds:List A):tyA Ω (.tup ds)=some "tuple":=rfl
@[simp] theorem zv1 (Ω:Sto) (ds:List A):tyA Ω (.lst ds)=some "list":=rfl
@[simp] theorem zuW:zmW .non=some true:=rfl
@[simp] theorem zvW (i:Int):zmW (.int i)=some false:=rfl
@[simp] theorem zuV (ds:List A):zmW (.tup ds)=some false:=rfl
@[simp] theorem zuU (ds:List A):zmW (.lst ds)=some false:=rfl
@[simp] theorem zvY (b:Bool):zmW (.bl b)=some false:=rfl
theorem zov {Ω:Sto} {k:Nat} {ds:List A} (h:Ω[k]? = some (.lst ds)):zaG Ω (.cel k)=some ds:=by simp [zaG,h]
theorem zl2 {Ω:Sto} {k:Nat} {ds:List A} (h:Ω[k]? = some (.lst ds)):zju Ω (.cel k)=some (k,ds):=by simp [zju,h]
theorem zul {Ω:Sto} {a:A} {ds:List A} (h:zaG Ω a=some ds):isL Ω a:=⟨ds,h⟩
section
variable {ok:Sto→Prop} {g:A→MS} {b:MS} {x:A} {xs:List A} {ρ ρ0 ρ1:Ev} {Ω Ω0 Ω1:Sto} {a:A}
theorem zg2 (h:ok Ω):fFor ok g b [] ρ Ω=some (.nx,ρ,Ω):=by simp [fFor,h]
theorem zbp (h:ok Ω) (hg:g x ρ Ω=some (.nx,ρ0,Ω0)) (hb:b ρ0 Ω0=some (.nx,ρ1,Ω1)):fFor ok g b (x :: xs) ρ Ω=fFor ok g b xs ρ1 Ω1:=by simp [fFor,h,hg,hb]
theorem ztp (h:ok Ω) (hg:g x ρ Ω=some (.nx,ρ0,Ω0)) (hb:b ρ0 Ω0=some (.ct,ρ1,Ω1)):fFor ok g b (x :: xs) ρ Ω=fFor ok g b xs ρ1 Ω1:=by simp [fFor,h,hg,hb]
theorem zkC (h:ok Ω) (hg:g x ρ Ω=some (.nx,ρ0,Ω0)) (hb:b ρ0 Ω0=some (.ret a,ρ1,Ω1)):fFor ok g b (x :: xs) ρ Ω=some (.ret a,ρ1,Ω1):=by simp [fFor,h,hg,hb]
theorem zit {e:Exc} (h:ok Ω) (hg:g x ρ Ω=some (.nx,ρ0,Ω0)) (hb:b ρ0 Ω0=some (.exc e,ρ1,Ω1)):fFor ok g b (x :: xs) ρ Ω=some (.exc e,ρ1,Ω1):=by simp [fFor,h,hg,hb]
theorem zic (I:Nat→Ev→Sto→Prop) (hok:∀ i ρ Ω,I i ρ Ω→ok Ω):∀ (xs:List A) (j:Nat) (ρ:Ev) (Ω:Sto),I j ρ Ω →
  (∀ i x ρ Ω,xs[i]? = some x→I (j + i) ρ Ω→∃ ρ0 Ω0 ρ1 Ω1,g x ρ Ω=some (.nx,ρ0,Ω0)∧(b ρ0 Ω0=some (.nx,ρ1,Ω1)∨b ρ0 Ω0=some (.ct,ρ1,Ω1))∧I (j + i + 1) ρ1 Ω1) →
  ∃ ρ' Ω',fFor ok g b xs ρ Ω=some (.nx,ρ',Ω')∧I (j + xs.length) ρ' Ω'
 | [],j,ρ,Ω,h0,_=>⟨ρ,Ω,zg2 (hok _ _ _ h0),h0⟩
 | x :: xs,j,ρ,Ω,h0,turn=>by
  obtain ⟨ρ0,Ω0,ρ1,Ω1,e1,e2,e3⟩:=turn 0 x ρ Ω rfl h0
  obtain ⟨ρ',Ω',q1,q2⟩:=zic I hok xs (j + 1) ρ1 Ω1 e3 fun i y ρ Ω hy hI=>by
   have:=turn (i + 1) y ρ Ω (by simpa using hy) (by rw [show j + (i + 1)=j + 1 + i by omega];exact hI)
   rwa [show j + (i + 1) + 1=j + 1 + i + 1 by omega] at this
  refine ⟨ρ',Ω',?_,by rw [List.length_cons,show j + (xs.length + 1)=j + 1 + xs.length by omega];exact q2⟩
  rcases e2 with e2 | e2
  ·rw [zbp (hok _ _ _ h0) e1 e2,q1]
  ·rw [ztp (hok _ _ _ h0) e1 e2,q1]
end
section
variable {c:Ev→Mo Bool} {b:MS} {n:Nat} {ρ ρ1:Ev} {Ω Ω1 Ω2:Sto} {a:A}
end
end V2
namespace V2
open PySem PySem.Spec PyProof.Rows L2
def Ite (K:PySem.W.Frag) (a:Addr):It :=
 ⟨fun i H=>∃ xs x,SqL K H a xs∧xs[i]? = some x,fun i H x H'=>∃ p y,H p=none∧H'=upd H p (.tup [.int (i:Int),y])∧x = .ref p∧∀ xs,SqL K H a xs→xs[i]? = some y,fun i H=>∃ xs,SqL K H a xs∧xs.length ≤ i⟩
section
variable {X:Cx} {pins:List (Addr × Obj)} {σ:L2.St} {H:Hp} {s:Shared} {h':Heap}
theorem Inv.zpx {t':Nat} {e it:Addr} (I:Inv X pins σ H s) (k:∀ b o,b ≠ e→b ≠ it→s.heap.get? b=some o→h'.get? b=some o) (fe:FpOk X pins H e) (ft:FpOk X pins H it):Inv X pins σ H { s with heap:=h',toks:=t' }:=by
 obtain ⟨a0,a1,a2,a3,a4,a5⟩:=fe
 obtain ⟨b0,b1,b2,b3,b4,b5⟩:=ft
 have ne:∀ b u,H b=some u→b ≠ e:=fun b u q z=>by rw [z,a0] at q;cases q
 have nit:∀ b u,H b=some u→b ≠ it:=fun b u q z=>by rw [z,b0] at q;cases q
 refine I.step (g':=s.gens) (d':=s.drawn) (ch:=[e,it]) (fun b hb=>?_) (fun b o _ _ hc q _=>k b o (fun z=>hc (by simp [z])) (fun z=>hc (by simp [z])) q) (fun b o _ _ hc q _=>⟨o.slots,k b o (fun z=>hc (by simp [z])) (fun z=>hc (by simp [z])) q⟩) (fun _ _ _ _ n=>n)
  (fun b o hc q=>⟨o,k b o (fun z=>hc (by simp [z])) (fun z=>hc (by simp [z])) q⟩) (fun _ _ q=>q) (fun _ _ _ q=>q) (fun b ps q=>⟨#[],by rw [q];simp⟩) (fun m hm=>?_) (fun b u q=>?_) I.bare
 ·rcases List.mem_cons.mp hb with z | z
  ·subst z;exact ⟨a3,a1,a4,a5⟩
  ·have z:b=it:=by simpa using z
   subst z;exact ⟨b3,b1,b4,b5⟩
 ·obtain ⟨o,es,ep,ho,r⟩:=hm
  exact ⟨o,es,ep,k _ o (Ne.symm a1) (Ne.symm b1) ho,r⟩
 ·refine (I.hok b u q).stay (fun c v hc q'=>k c v ?_ ?_ q') (fun _ q=>q) fun _ _ q=>q
  ·rcases hc with z | z
   ·rw [z];exact ne b u q
   ·exact ne c _ z
  ·rcases hc with z | z
   ·rw [z];exact nit b u q
   ·exact nit c _ z
end
theorem Inv.zsq {X:Cx} {pins:List (Addr × Obj)} {σ:L2.St} {H:Hp} {s:Shared} {p:Addr} {o:HO} (I:Inv X pins σ H s) (hp:H p=none) (h0:X.s₀.heap.get? p=none) (hL:p ≠ X.env.locals) (hC:∀ x c,X.env.cells.lookup x=some c→c ≠ p) (hP:∀ q ∈ X.pn ++ pins,q.1 ≠ p)
  (hok:HOk X.prog X.w (upd H p o) s.heap):Inv X pins σ (upd H p o) s where
 ok:=I.ok
 os:=I.os
 bare:=I.bare
 base:={
  keep:=I.base.keep
  slot:=I.base.slot
  free:=fun b ob q n hx=>by
   have hb:b ≠ p:=fun z=>by subst z;rw [h0] at q;cases q
   rw [zat hb];exact I.base.free b ob q n hx
  there:=I.base.there
  tups:=fun b xs q=>by have z:=I.base.tups b xs q;rw [zat (zaW z hp)];exact z
  frzs:=fun b ob u q=>by have z:=I.base.frzs b ob u q;rw [zat (zaW z hp)];exact z
  tbls:=fun b ps q=>by obtain ⟨more,z⟩:=I.base.tbls b ps q;exact ⟨more,by rw [zat (zaW z hp)];exact z⟩ }
 loc:=I.loc
 cell:=I.cell
 free:=by rw [zat (Ne.symm hL)];exact I.free
 freeC:=fun x c q=>by rw [zat (hC x c q)];exact I.freeC x c q
 pin:=fun q hq=>by
  obtain ⟨a,b,c⟩:=I.pin q hq
  exact ⟨a,by rw [zat (hP q hq)];exact b,c⟩
 hok:=hok
 len:=I.len
theorem zqe {P:Program} {w:World} {K:PySem.W.Frag} {elts:List Expr} {x1:Nat} {tp:Pos} (a e it:Addr) (hne:e ≠ it):Turn P w K (.Tuple elts x1 tp) (Ite K a) [e,it] e (fun i h=>(∃ old,IsEnum h e it (i:Int) old)∧h.IsListIter it a i) where
 mem:=by simp
 obj:=fun i h st b hb=>by
  obtain ⟨⟨old,st1⟩,o,q,c,d⟩:=st
  rcases List.mem_cons.mp hb with z | z
  ·subst z;exact ⟨_,st1,fun v z=>by cases z⟩
  ·have z:b=it:=by simpa using z
   subst z;exact ⟨o,q,fun v z=>by rw [d] at z;cases z⟩
 keep:=fun i h h' st k=>⟨let ⟨old,q⟩:=st.1; ⟨old,k e (by simp) _ q⟩,st.2.at fun o q=>k it (by simp) o q⟩
 item:=by
  intro X hP hw hK hc i pins s σ H E I hf st hg
  subst hP hw hK
  obtain ⟨⟨old,st1⟩,st2⟩:=st
  obtain ⟨xs,x,hq,hx⟩:=hg
  obtain ⟨its,rv,p,hz⟩:=I.list hq
  obtain ⟨u,hu,ru⟩:=rv.get hx
  have fe:=hf e (by simp)
  have ft:=hf it (by simp)
  have hse:e < s.heap.objs.size:=Heap.lt_size st1
  have hsi:it < s.heap.objs.size:=let ⟨_,q,_⟩:=st2;Heap.lt_size q
  refine wpAny_pyNext_enum_item st1 st2 p.isList (x:=u) (by simpa using hu) hne fun h1 e1 i1 t1 z1 k1=>?_
  refine ⟨_,rfl,wpAny_letOwnedTupleGo_enum (s:={ s with heap:=h1,toks:=s.toks + 1 }) e1 fun h2 e2 s2=>?_⟩
  have hp0:H s.heap.objs.size=none:=I.hok.fresh (Nat.le_refl _)
  have k2:∀ b o,b ≠ e→b ≠ it→s.heap.get? b=some o→h2.get? b=some o:=fun b o n1 n2 q=>s2.extBut b o n1 (k1 b o n1 n2 q)
  have t2:h2.get? s.heap.objs.size=some { cls := .type "tuple",data := .seq #[.int (i:Int) s.toks,u] }:=s2.extBut _ _ (Nat.ne_of_gt hse) t1
  have I1:Inv X pins σ H { s with heap:=h2,toks:=s.toks + 1 }:=Inv.zpx (t':=s.toks + 1) I k2 fe ft
  have i2:h2.IsListIter it a (i + 1):=i1.extBut s2.extBut (Ne.symm hne)
  have hok:HOk X.prog X.w (upd H s.heap.objs.size (.tup [.int (i:Int),x])) h2:=by
   refine fun b o q=>?_
   by_cases eb:b=s.heap.objs.size
   ·subst eb
    rw [zaI] at q
    cases q
    exact ⟨by show 2 ≤ sizeLine;decide,[.int (i:Int) s.toks,u], .cons ⟨_,rfl⟩ (.cons ru .nil),⟨_,t2,rfl,_,rfl⟩⟩
   ·rw [zat eb] at q
    exact (I1.hok b o q).stay (fun c v _ z=>z) (fun c z=>by rw [zat (zaW z hp0)];exact z) fun c xs z=>by rw [zat (zaW z hp0)];exact z
  have fp:FpOk X pins H s.heap.objs.size:=I.fpOk (Nat.le_refl _) hp0
  have h0:X.s₀.heap.get? s.heap.objs.size=none:=by
   cases q:X.s₀.heap.get? s.heap.objs.size with
   | none=>rfl
   | some ob=>exact absurd (Nat.lt_of_lt_of_le (Heap.lt_size q) I.sz) (Nat.lt_irrefl _)
  have I2:Inv X pins σ (upd H s.heap.objs.size (.tup [.int (i:Int),x])) { s with heap:=h2,toks:=s.toks + 1 }:=Inv.zsq I1 hp0 h0 fp.2.1 fp.2.2.2.2.1 fp.2.2.2.2.2 hok
  refine ⟨.ref s.heap.objs.size,_,I2,rfl,⟨_,x,hp0,rfl,rfl,fun ys hy=>by rw [I.zid hy hq];exact hx⟩,⟨⟨_,e2⟩,i2⟩,fun b hb=>?_⟩
  rcases List.mem_cons.mp hb with z | z
  ·subst z;rw [zat (Nat.ne_of_lt hse)];exact fe.1
  ·have z:b=it:=by simpa using z
   subst z;rw [zat (Nat.ne_of_lt hsi)];exact ft.1
 done:=by
  intro X hP hw hK hc i pins s σ H E I hf st hg
  subst hP hw hK
  obtain ⟨⟨old,st1⟩,st2⟩:=st
  obtain ⟨xs,hq,hx⟩:=hg
  obtain ⟨its,rv,p,hz⟩:=I.list hq
  obtain ⟨f0,f1,f2,f3,f4,f5⟩:=hf it (by simp)
  have hl:=rv.length
  exact wpAny_pyNext_enum_end (I.ok.hd hc) st1 st2 p.isList (by simp;omega) fun h' eb=>⟨rfl,I.turned (t':=s.toks) (fun b o hb e=>eb b o hb e) f0 f1 f3 f4 f5⟩
 self:=fun _ _ _ _ _ st h=>let ⟨_,q⟩:=st.1;wpAny_pyIter_enum q h
section
variable {X:Cx} {W:WX} {pos:Pos}
theorem zs4 {elts:List Expr} {x1:Nat} {tp p:Pos} {l:Expr} {tl:TE} (hg:Gl X "enumerate") (hm:X.mg "enumerate" = none) (hl:PE X l tl) (hs:starEach [l] X.env=[(false,eval l X.env)]:=by rfl) :
  PI X (.Tuple elts x1 tp) (.Call (.Name "enumerate" p) [l] [] pos) (fun σ H R=>tl σ H fun x H1=>∃ a,x = .ref a∧(∃ xs,SqL X.K H1 a xs)∧R (Ite X.K a) H1):=by
 intro pins s σ H R I h
 refine wpAny_Call_Name_kw (zfM I hg hm boot_enumerate ?_)
 refine PyProof.Rows.callWith_type1 (thn (zhE hl zl9 hs pos pins s σ H (fun vs H1=>match vs with
  | [x]=>∃ a,x=V.ref a∧(∃ xs,SqL X.K H1 a xs)∧R (Ite X.K a) H1
  | _=>False) I h) fun us s1 ⟨vs,H1,I1,r1,q1⟩=>?_) hs rfl
 match vs,q1 with
 | [x],q1 =>
 obtain ⟨a,e1,⟨xs,hq⟩,q⟩:=q1
 obtain ⟨u,rfl,ru⟩:=vals1 r1
 subst e1
 cases ru
 obtain ⟨its,rv,pl,hz⟩:=I1.list hq
 refine call_enumerate_list pl.isList fun h' hE hI hsz hk=>?_
 refine wpAny_pyIter_enum (s:={ s1 with heap:=h' }) hE ?_
 have I2:Inv X pins σ H1 { s1 with heap:=h' }:=I1.kept (t':=s1.toks) hk
 refine ⟨_,[s1.heap.objs.size + 1,s1.heap.objs.size],_,_,H1,rfl,I2,zqe a _ _ (Nat.succ_ne_self _),⟨⟨.none,hE⟩,hI⟩,fun b hb=>?_,q⟩
 rcases List.mem_cons.mp hb with z | z
 ·subst z;exact I1.fpOk (Nat.le_succ _) (I1.hok.fresh (Nat.le_succ _))
 ·have z:b=s1.heap.objs.size:=by simpa using z
  subst z;exact I1.fpOk (Nat.le_refl _) (I1.hok.fresh (Nat.le_refl _))
def zaA:Nat→List A→List A
 | _,[]=>[]
 | n,x :: xs => .tup [.int (n:Int),x] :: zaA (n + 1) xs
theorem zf6:∀ (n:Nat) (xs:List A),(zaA n xs).length=xs.length
 | _,[]=>rfl
 | n,x :: xs=>by simp only [zaA,List.length_cons,zf6 (n + 1) xs]
theorem zik:∀ (n i:Nat) (xs:List A),(zaA n xs)[i]? = xs[i]?.map fun x => .tup [.int ((n + i:Nat):Int),x]
 | _,_,[]=>by simp [zaA]
 | n,0,x :: xs=>by simp [zaA]
 | n,i + 1,x :: xs=>by
  simp only [zaA,List.getElem?_cons_succ]
  rw [zik (n + 1) i xs]
  have e:n + 1 + i=n + (i + 1):=by omega
  rw [e]
def enumSrc (a:A) (ds:List A):Src:=⟨zaA 0 ds,fun Ω=>zaG Ω a=some ds⟩
@[simp] def zgK (f:Ev→Mo A):Ev→Mo Src:=fun ρ=>mb (f ρ) fun a Ω=>match zaG Ω a with
 | some ds=>some (.ok (enumSrc a ds),Ω)
 | none=>none
theorem zrz {K:PySem.W.Frag} {G:Hp} {ι:List Addr} {p:Addr} {a:A} {ds:List A} (d:Den K G ι (.ref p) a):ItV K G ι (Ite K p) (enumSrc a ds):=by
 have key:∀ G' ι' Ω' H',Ext G ι G' ι'→Wd K G' ι' Ω' H'→zaG Ω' a=some ds→∃ xs,SqL K H' p xs∧DenL K G' ι' xs ds:=fun G' ι' Ω' H' e w h=>by
  obtain ⟨q,xs,h1,h2,h3⟩:=zby w (d.ext e) h
  cases h1
  exact ⟨xs,h2,h3⟩
 refine ⟨fun G' ι' Ω' H' e w h i hi=>?_,fun G' ι' Ω' H' e w h i hi=>?_,fun G' ι' Ω' H' e w h i x H2 y hy hd=>?_⟩
 ·obtain ⟨xs,h2,h3⟩:=key G' ι' Ω' H' e w h
  have hl:i < xs.length:=by rw [h3.length,← zf6 0 ds];exact hi
  exact ⟨xs,xs[i],h2,List.getElem?_eq_getElem hl⟩
 ·obtain ⟨xs,h2,h3⟩:=key G' ι' Ω' H' e w h
  exact ⟨xs,h2,by rw [h3.length,← zf6 0 ds];exact hi⟩
 ·obtain ⟨xs,h2,h3⟩:=key G' ι' Ω' H' e w h
  obtain ⟨q,z,e1,e2,e3,e4⟩:=hd
  subst e2 e3
  have hy':(zaA 0 ds)[i]? = some y:=hy
  rw [zik] at hy'
  cases ed:ds[i]? with
  | none=>rw [ed] at hy';cases hy'
  | some d' =>
   rw [ed] at hy'
   cases hy'
   obtain ⟨z',q1,q2⟩:=h3.get ed
   rw [e4 xs h2] at q1
   cases q1
   refine ⟨upd G' q (.tup [.int (i:Int),z]),Ext.new (w.zhS e1) _,w.new e1 _,?_⟩
   simp only [Den]
   exact ⟨q,_,rfl,zaI, .cons (by simp only [Den,Nat.zero_add]) (.cons (q2.ext (Ext.new (w.zhS e1) _)) .nil)⟩
theorem zgG {elts:List Expr} {x1:Nat} {tp p:Pos} {l:Expr} {fe:Ev→Mo A} (hg:Gl X "enumerate") (hm:X.mg "enumerate" = none) (h:VE X W l fe) (hs:starEach [l] X.env=[(false,eval l X.env)]:=by rfl) :
  VI X W (.Tuple elts x1 tp) (.Call (.Name "enumerate" p) [l] [] pos) (zgK fe):=by
 obtain ⟨t,p,s⟩:=h
 refine ⟨_,zs4 hg hm p hs,fun G ι Ω H σ ρ R w r h=>?_⟩
 refine s G ι Ω H σ ρ _ w r (Post.mb h fun a Ω1 v H1 G1 ι1 x1 w1 d1 h1=>?_)
 cases e:zaG Ω1 a with
 | none=>simp only [e] at h1;exact False.elim h1
 | some ds =>
  simp only [e] at h1
  obtain ⟨q,xs,h2,h3,h4⟩:=zby w1 d1 e
  subst h2
  exact ⟨q,rfl,⟨xs,h3⟩,h1 _ H1 G1 ι1 (Ext.refl _ _) w1 (zrz d1)⟩
end
end V2
namespace V2
open PySem PySem.Spec PyProof.Rows L2
def lcEv (n:Nat) (js:List Nat) (ρ:Ev):Ev:=List.replicate n none ++ js.map (fun j=>(ρ[j]?).join)
def VIf (X:Cx) (W:WX) (ifs:List Expr) (f:Ev→Mo Bool):Prop:=∃ t,PIf X ifs t∧Sim X.K relB W t f
abbrev yesM:Ev→Mo Bool:=fun _=>ret true
theorem ziA {X:Cx} {W:WX}:VIf X W [] yesM:=⟨_,zth,fun _ _ _ _ _ _ _ w _ q=>zbN w rfl q⟩
theorem zqr {X:Cx} {W:WX} {c:Expr} {f:Ev→Mo Bool} (h:VT X W c f):VIf X W [c] f:=let ⟨t,p,s⟩:=h; ⟨t,ztf p,s⟩
open Classical in
noncomputable def fLC (ok:Sto→Prop) (g:A→MS) (c:Ev→Mo Bool) (e:Ev→Mo A) (n:Nat):List A→Ev→Sto→Option (Ev × Sto)
 | [],ρ,Ω=>if ok Ω then some (ρ,Ω) else none
 | x :: xs,ρ,Ω=>if ok Ω then (match g x ρ Ω with
  | some (.nx,ρ1,Ω1)=>(match c ρ1 Ω1 with
   | some (.ok true,Ω2)=>(match e ρ1 Ω2 with
    | some (.ok y,Ω3)=>(match Ω3[n]? with
     | some (.lst ys)=>if ys.length < sizeLine then fLC ok g c e n xs ρ1 (Ω3.set n (.lst (ys ++ [y]))) else none
     | _=>none)
    | _=>none)
   | some (.ok false,Ω2)=>fLC ok g c e n xs ρ1 Ω2
   | _=>none)
  | _=>none) else none
open Classical in
noncomputable def zrW (cf:Bool) (Ω1:Sto) (r:Option (Ev × Sto)):Option (Rs A × Sto):=match r with
 | some (_,Ω')=>(match Ω'[Ω1.length]? with
  | some (.lst ys)=>if cf then some (.ok (.cel Ω1.length),Ω') else if Ω'.take Ω1.length=Ω1∧ClL Ω1.length ys then some (.ok (.lst ys),Ω1) else some (.ok (.lst ys),Ω'.set Ω1.length .dead)
  | _=>none)
 | none=>none
noncomputable def vLC (cf:Bool) (n:Nat) (js:List Nat) (fi:Ev→Mo Src) (g:A→MS) (c:Ev→Mo Bool) (e:Ev→Mo A):Ev→Mo A:=fun ρ=>mb (fi ρ) fun S Ω1=>zrW cf Ω1 (fLC S.ok g c e Ω1.length S.ds (lcEv n js ρ) (Ω1 ++ [.lst []]))
theorem zvF {ok:Sto→Prop} {g:A→MS} {c:Ev→Mo Bool} {e:Ev→Mo A} {n:Nat} {xs:List A} {ρ:Ev} {Ω:Sto} {r:Ev × Sto} (h:fLC ok g c e n xs ρ Ω=some r):ok Ω:=by
 cases xs with
 | nil=>unfold fLC at h;by_cases hp:ok Ω;exact hp;rw [if_neg hp] at h;cases h
 | cons=>unfold fLC at h;by_cases hp:ok Ω;exact hp;rw [if_neg hp] at h;cases h
theorem zt8 {K:PySem.W.Frag} {G:Hp} {ι:List Addr} {σ:L2.St} {ρ:Ev} (ls:List Str) (js:List Nat) (r:EnvR K G ι σ ρ):EnvR K G ι (lcSt ls js σ) (lcEv ls.length js ρ):=by
 unfold lcSt lcEv
 refine ⟨by simp,fun i d h=>?_⟩
 by_cases hi:i < ls.length
 ·rw [List.getElem?_append_left (by simpa using hi)] at h
  rw [List.getElem?_replicate,if_pos hi] at h
  cases h
 ·rw [List.getElem?_append_right (by simpa using Nat.le_of_not_lt hi),List.length_replicate,List.getElem?_map] at h
  cases e:js[i - ls.length]? with
  | none=>rw [e] at h;cases h
  | some j =>
   rw [e] at h
   have h':(ρ[j]?).join=some d:=Option.some.inj h
   obtain ⟨v,q1,q2⟩:=r.2 j d (join_some h')
   refine ⟨v,?_,q2⟩
   rw [List.getElem?_append_right (by simpa using Nat.le_of_not_lt hi),List.length_map,List.getElem?_map,e]
   show some (σ[j]?).join=_
   rw [q1];rfl
section
variable {K:PySem.W.Frag} {W:WX}
theorem zut {ls:List Str} {js:List Nat} {wi:TI} {tg:TG} {tc:TT} {te:TE} {fi:Ev→Mo Src} {g:A→MS} {c:Ev→Mo Bool} {e:Ev→Mo A} {cf:Bool} (W0:WX) (hi:Sim K (relI K) W wi fi) (hg:SimG K W0 tg g) (hc:Sim K relB W0 tc c) (he:Sim K (Den K) W0 te e) :
  Sim K (Den K) W (tLC ls js wi tg tc te) (vLC cf ls.length js fi g c e):=by
 intro G ι Ω H σ ρ Q w r h
 refine hi G ι Ω H σ ρ _ w r (Post.mb h fun S Ω1 J H1 G1 ι1 x1 w1 j1 h1=>?_)
 intro D hD
 unfold zrW at h1
 cases er:fLC S.ok g c e Ω1.length S.ds (lcEv ls.length js ρ) (Ω1 ++ [.lst []]) with
 | none=>rw [er] at h1;exact False.elim h1
 | some rr =>
 obtain ⟨ρe,Ωe⟩:=rr
 rw [er] at h1
 simp only at h1
 have hw0:Wd K G1 (ι1 ++ [D]) (Ω1 ++ [.lst []]) (upd H1 D (.lst [])):=w1.cell hD ⟨w1.zhS hD,[],zaI, .nil⟩
 have r0:EnvR K G1 (ι1 ++ [D]) (lcSt ls js σ) (lcEv ls.length js ρ):=zt8 ls js (r.ext (x1.trans (Ext.cell D)))
 have hDk:(ι1 ++ [D])[Ω1.length]? = some D:=by rw [← w1.len];simp
 refine ⟨fun i m σ' H'=>m=S.ds.length - i∧i ≤ S.ds.length∧∃ G' ι' Ω' ρ',Ext G1 (ι1 ++ [D]) G' ι'∧Wd K G' ι' Ω' H'∧EnvR K G' ι' σ' ρ'∧fLC S.ok g c e Ω1.length (S.ds.drop i) ρ' Ω'=some (ρe,Ωe),
  ⟨_,rfl,Nat.zero_le _,G1,_,_,_,Ext.refl _ _,hw0,r0,by simpa using er⟩,?_⟩
 rintro i m σ' H' ⟨rfl,hil,G',ι',Ω',ρ',e',w',r',h'⟩
 have hok:=zvF h'
 have eJ:Ext G1 ι1 G' ι':=(Ext.cell D).trans e'
 by_cases hlt:i < S.ds.length
 ·right
  refine ⟨j1.go G' ι' Ω' H' eJ w' hok i hlt,fun σ2 H2=>∃ G2 ι2 Ω2 ρ2,Ext G1 (ι1 ++ [D]) G2 ι2∧Wd K G2 ι2 Ω2 H2∧EnvR K G2 ι2 σ2 ρ2∧fLC S.ok g c e Ω1.length (S.ds.drop (i + 1)) ρ2 Ω2=some (ρe,Ωe),fun σ2 H2 n=>?_,fun x H2 y=>?_⟩
  ·exact ⟨S.ds.length - (i + 1),by omega,rfl,hlt,n⟩
  ·obtain ⟨G2,e2,w2,d2⟩:=j1.yld G' ι' Ω' H' eJ w' hok i x H2 S.ds[i] (List.getElem?_eq_getElem hlt) y
   rw [List.drop_eq_getElem_cons hlt] at h'
   unfold fLC at h'
   rw [if_pos hok] at h'
   refine hg G2 ι' Ω' H2 σ' ρ' x S.ds[i] ⟨_,fun _ _=>False,fun _ _=>False,fun _ _=>False⟩ w2 (r'.ext e2) d2 ?_
   revert h'
   generalize g S.ds[i] ρ' Ω'=q
   intro h'
   split at h'
   ·rename_i ρ3 Ω3
    intro σ3 H3 G3 ι3 x3 w3 r3
    refine hc G3 ι3 Ω3 H3 σ3 ρ3 _ w3 r3 ?_
    revert h'
    generalize c ρ3 Ω3=q2
    intro h'
    split at h'
    ·rename_i Ω4
     intro b H4 G4 ι4 x4 w4 hb
     cases (show b=true from hb)
     rw [if_pos rfl]
     refine he G4 ι4 Ω4 H4 σ3 ρ3 _ w4 (r3.ext x4) ?_
     revert h'
     generalize e ρ3 Ω4=q3
     intro h'
     split at h'
     ·rename_i z Ω5
      intro v H5 G5 ι5 x5 w5 d5
      split at h'
      ·rename_i ys ey
       split at h'
       ·rename_i hl
        have eD:=(((e'.trans e2).trans x3).trans x4).trans x5
        have hk:=eD.pre _ _ hDk
        obtain ⟨gg,xs,q1,q2⟩:=w5.cel _ _ D ey hk
        refine ⟨xs,q1,by rw [q2.length];exact hl,G5,ι5,_,ρ3,eD,w5.put (c := .lst (ys ++ [z])) hk gg ⟨gg,_,zaI,q2.append (.cons d5 .nil)⟩,(r3.ext x4).ext x5,h'⟩
       ·cases h'
      ·cases h'
     ·cases h'
    ·rename_i Ω4
     intro b H4 G4 ι4 x4 w4 hb
     cases (show b=false from hb)
     rw [if_neg (by simp)]
     exact ⟨G4,ι4,Ω4,ρ3,((e'.trans e2).trans x3).trans x4,w4,r3.ext x4,h'⟩
    ·cases h'
   ·cases h'
 ·have hie:i=S.ds.length:=by omega
  subst hie
  left
  refine ⟨j1.stop G' ι' Ω' H' eJ w' hok _ (Nat.le_refl _),?_⟩
  rw [List.drop_length] at h'
  unfold fLC at h'
  rw [if_pos hok] at h'
  cases h'
  split at h1
  ·rename_i ys ey
   have hk:=e'.pre _ _ hDk
   obtain ⟨gg,xs,q1,q2⟩:=w'.cel _ _ D ey hk
   split at h1
   ·exact h1 _ H' G' ι' eJ w' (by simp only [Den];exact ⟨D,rfl,hk⟩)
   ·have wf:=w'.freeze hk gg q1
    split at h1
    ·rename_i hcut
     have eC:Ext G1 ι1 (upd G' D (.lst xs)) ι':=eJ.trans (Ext.new gg _)
     have wc:=w1.cut wf eC (by rw [List.take_set_of_le (Nat.le_refl _)];exact hcut.1)
     refine h1 _ H' _ ι1 ⟨eC.same,fun _ _ q=>q⟩ wc ?_
     simp only [Den]
     exact ⟨D,xs,rfl,zaI,(q2.ext (Ext.new gg _)).cut eC.cut (by rw [w1.len];exact hcut.2)⟩
    ·refine h1 _ H' _ ι' (eJ.trans (Ext.new gg _)) wf ?_
     simp only [Den]
     exact ⟨D,xs,rfl,zaI,q2.ext (Ext.new gg _)⟩
  ·exact False.elim h1
end
def tCan {α β:Type} (K:PySem.W.Frag) (rel:Rl α β) (W:WX) (f:Ev→Mo α):L2.St→Hp→(β→Hp→Prop)→Prop:=fun σ H Q=>∃ G ι Ω ρ,Wd K G ι Ω H∧EnvR K G ι σ ρ∧Post K rel W G ι σ Q (f ρ Ω)
def zvK (K:PySem.W.Frag) (W:WX) (g:A→MS):TG:=fun v σ H Q=>∃ G ι Ω ρ a D,Wd K G ι Ω H∧EnvR K G ι σ ρ∧Den K G ι v a∧zcY K W G ι D (g a ρ Ω)∧D.nx=Q
theorem zpf {α β:Type} {K:PySem.W.Frag} {rel:Rl α β} {W:WX} {f:Ev→Mo α}:Sim K rel W (tCan K rel W f) f:=fun G ι Ω H σ ρ Q w r h=>⟨G,ι,Ω,ρ,w,r,h⟩
theorem zqM {K:PySem.W.Frag} {W:WX} {g:A→MS}:SimG K W (zvK K W g) g:=fun G ι Ω H σ ρ v a D w r d h=>⟨G,ι,Ω,ρ,a,D,w,r,d,h,rfl⟩
theorem VE.can {X:Cx} {W:WX} {e:Expr} {f:Ev→Mo A} (h:VE X W e f):PE X e (tCan X.K (Den X.K) W f):=by
 obtain ⟨t,p,s⟩:=h
 exact fun pins sh σ H Q I ⟨G,ι,Ω,ρ,w,r,q⟩=>p pins sh σ H Q I (s G ι Ω H σ ρ Q w r q)
theorem VIf.can {X:Cx} {W:WX} {ifs:List Expr} {f:Ev→Mo Bool} (h:VIf X W ifs f):PIf X ifs (tCan X.K relB W f):=by
 obtain ⟨t,p,s⟩:=h
 exact fun pins sh σ H Q I ⟨G,ι,Ω,ρ,w,r,q⟩=>p pins sh σ H Q I (s G ι Ω H σ ρ Q w r q)
theorem VG.can {X:Cx} {W:WX} {tg:Expr} {g:A→MS} (h:VG X W tg g):PG X tg (zvK X.K W g):=by
 obtain ⟨t,p,s⟩:=h
 exact fun pins sh σ H v u Q I rv ⟨G,ι,Ω,ρ,a,D,w,r,d,q,e⟩=>p pins sh σ H v u Q I rv (e ▸ s G ι Ω H σ ρ v a D w r d q)
abbrev noW:WX:=fun _ _ _ _=>False
theorem zmA {X:Cx} {W:WX} {elt tg iter:Expr} {ifs:List Expr} {scope:Scope} {pos:Pos} {fi:Ev→Mo Src} {g:A→MS} {c:Ev→Mo Bool} {e:Ev→Mo A} (cf:Bool) (ls:List Str) (js:List Nat) (hc:X.calm=true) (L:LcOk X scope ls js) (hi:VI X W tg iter fi)
  (hb:∀ cl C s H fp,VG (lcCx X scope ls js cl C s H fp) noW tg g∧VIf (lcCx X scope ls js cl C s H fp) noW ifs c∧VE (lcCx X scope ls js cl C s H fp) noW elt e)
  (hs:∀ x,foldedSetIterable iter X.env x=pure x:=by intro _;rfl):VE X W (.ListComp elt [⟨tg,iter,ifs,0⟩] scope pos) (vLC cf ls.length js fi g c e):=by
 obtain ⟨t1,p1,s1⟩:=hi
 exact ⟨_,zwx hc L p1 (fun cl C s H fp=>⟨(hb cl C s H fp).1.can,(hb cl C s H fp).2.1.can,(hb cl C s H fp).2.2.can⟩) hs,zut _ s1 zqM zpf zpf⟩
def rIsB (neg:Bool):R2:=fun x y H Q=>∃ b,y = .bl b∧Q (.bl (if neg then !decide (x = .bl b) else decide (x = .bl b))) H
theorem zuq {x:V} {u:Value} {b:Bool} (r:RelV x u):(u == Value.bool b)=decide (x = .bl b)∧plainIs u (.bool b)=true:=by
 cases x with
 | non=>cases r;exact ⟨by simp,rfl⟩
 | bl c=>cases r;exact ⟨by cases c <;> cases b <;> simp,rfl⟩
 | int i=>obtain ⟨t,rfl⟩:=r;exact ⟨by simp,rfl⟩
 | str i=>obtain ⟨t,rfl⟩:=r;exact ⟨by simp,rfl⟩
 | byt i=>obtain ⟨t,rfl⟩:=r;exact ⟨by simp,rfl⟩
 | flt i=>obtain ⟨t,rfl⟩:=r;exact ⟨by simp,rfl⟩
 | ref i=>cases r;exact ⟨by simp,rfl⟩
 | ty i=>cases r;exact ⟨by simp,rfl⟩
theorem zqD {X:Cx}:OpR X (compareOp .IsNot) (rIsB true):=by
 intro pins s σ H x y v u Q I rx ry h
 obtain ⟨b,rfl,q⟩:=h
 cases ry
 obtain ⟨e1,e2⟩:=zuq (b:=b) rx
 exact wpAny_isNot_plain e2 (by rw [e1];exact ⟨.bl (!decide (x = .bl b)),H,I,rfl,q⟩)
def isBl (b:Bool):A→Bool
 | .bl c=>c == b
 | _=>false
theorem ztA {K:PySem.W.Frag} {G:Hp} {ι:List Addr} {v:V} {a:A} (b:Bool) (d:Den K G ι v a):isBl b a=decide (v = .bl b):=by
 cases a with
 | bl c=>simp only [Den] at d;subst d;rw [zvS];rfl
 | tup ds=>simp only [Den] at d;obtain ⟨p,xs,rfl,_⟩:=d;simp [isBl]
 | lst ds=>simp only [Den] at d;obtain ⟨p,xs,rfl,_⟩:=d;simp [isBl]
 | scr ds=>simp only [Den] at d;obtain ⟨p,rfl,_⟩:=d;simp [isBl]
 | cel ds=>simp only [Den] at d;obtain ⟨p,rfl,_⟩:=d;simp [isBl]
 | gl x=>simp only [Den] at d;obtain ⟨p,_,rfl⟩:=d;simp [isBl]
 | exn p d' f i=>simp only [Den] at d;obtain ⟨rfl,_⟩:=d;simp [isBl]
 | _=>simp only [Den] at d;subst d;simp [isBl]
@[simp] def gIsB (neg:Bool):A→A→Mo A
 | a, .bl b=>ret (.bl (if neg then !isBl b a else isBl b a))
 | _,_=>stuck
theorem ztG {K:PySem.W.Frag} {W:WX} {neg:Bool}:OpV K W (rIsB neg) (gIsB neg):=by
 intro G ι Ω H σ x y a b Q w d1 d2 h
 cases b with
 | bl c =>
  simp only [Den] at d2
  refine ⟨c,d2,?_⟩
  rw [← ztA c d1]
  exact zbN w (by simp only [Den]) h
 | _=>exact False.elim h
theorem zrU {X:Cx} {W:WX}:OpOk X W (compareOp .IsNot) (gIsB true):=⟨_,zqD,ztG⟩
end V2
namespace V2
open PySem PySem.Spec PyProof.Rows L2
def sortI (ns:List Int):List Int:=ns.mergeSort fun a b=>decide (a ≤ b)
theorem sortI_perm (ns:List Int):(sortI ns).Perm ns:=List.mergeSort_perm ns _
theorem zjZ (ns:List Int):(sortI ns).Pairwise (· ≤ ·):=by
 have h:=List.pairwise_mergeSort (le:=fun a b:Int=>decide (a ≤ b)) (fun a b c h1 h2=>by simp at h1 h2 ⊢;omega) (fun a b=>by simp;omega) ns
 exact h.imp fun h=>of_decide_eq_true h
theorem zhW {ns ms:List Int} (p:ms.Perm ns) (h:ms.Pairwise (· ≤ ·)):ms=sortI ns :=
 List.Perm.eq_of_pairwise (le:=(· ≤ ·)) (fun a b _ _ h1 h2=>Int.le_antisymm h1 h2) h (zjZ ns) (p.trans (sortI_perm ns).symm)
theorem zew (ns:List Int):(sortI ns).length=ns.length:=(sortI_perm ns).length_eq
section
variable {X:Cx} {W:WX}
theorem zhV:∀ {us:List Value} {ns:List Int},IntsAre us ns→Vals (ns.map V.int) us
 | _,_, .nil => .nil
 | _,_, .cons n t h => .cons ⟨t,rfl⟩ (zhV h)
theorem zlE:zeR X (.builtin "sorted") (fun xs H Q=>∃ (a:Addr) (ns:List Int),xs=[.ref a]∧SqL X.K H a (ns.map V.int)∧ns.length < 64∧∀ l,H l=none→Q (.ref l) (upd H l (.lst ((sortI ns).map V.int)))):=by
 intro pins s σ H xs us Q I r h
 obtain ⟨a,ns,rfl,hq,h64,q⟩:=h
 obtain ⟨u,rfl,ru⟩:=vals1 r
 cases ru
 obtain ⟨its,rv,pl,hz⟩:=I.list hq
 have hI:IntsAre its ns:=intsAre_of rv
 have hl:its.length=ns.length:=by rw [← rv.length,List.length_map]
 refine sorted_ints pl.isList hI (by omega) fun out ns' a1 a2 a3=>?_
 obtain ⟨e,he⟩:=sortedAll_at s.heap its out
 have hn:=zhW a2 a3
 subst hn
 refine ⟨.ref (s.heap.objs.size + 1),_,I.laid (t':=s.toks) (o := .lst ((sortI ns).map V.int)) (fun b o q=>sortedAll_old q) (Nat.le_succ _) ?_,rfl,q _ (I.hok.fresh (Nat.le_succ _))⟩
 exact ⟨by rw [List.length_map,zew,sizeLine_eq];omega,out.toList,e,zhV a1,he⟩
@[simp] def zqn (c:Bool) (as:List A):Mo A:=fun Ω=>match as with
 | [a]=>(match (zaG Ω a).bind intsOf with
  | some ns=>if ns.length < 64 then mkL c ((sortI ns).map A.int) Ω else none
  | none=>none)
 | _=>none
theorem zoM (c:Bool):zej X W (.builtin "sorted") (zqn c):=by
 refine ⟨_,zlE,?_⟩
 intro G ι Ω H σ xs as Q w d h
 unfold zqn at h
 split at h
 ·rename_i a
  split at h
  ·rename_i ns e
   split at h
   ·rename_i h64
    obtain ⟨x,rfl,d1⟩:=den1 d
    rw [Option.bind_eq_some_iff] at e
    obtain ⟨ds,e1,e2⟩:=e
    obtain ⟨p,ys,rfl,h2,h3⟩:=zby w d1 e1
    rw [zgX e2 h3] at h2
    exact ⟨p,ns,rfl,h2,h64,fun l hl=>zgP w hl (zgO _) h⟩
   ·exact False.elim h
  ·exact False.elim h
 ·exact False.elim h
end
end V2
namespace M
open PySem V2
noncomputable def zjy:MS :=
 (sSeq (sAsg (vOp (gMod) (vOp (gMul) (vOp (gAdd false) (vVar 0) (cI 1)) (vOp (gAdd false) (cI 48271) (vOp (gMul) (cI 118) (vVar 1)))) (cI 2147483629)) (gN 2))
  (sRet (vOp (gMod) (vOp (gAdd false) (vOp (gAdd false) (vOp (gMul) (vOp (gDiv) (vVar 2) (cI 977)) (cI 16807)) (vOp (gMul) (vVar 2) (vOp (gAdd false) (vOp (gMul) (vVar 1) (vVar 1)) (cI 7)))) (vVar 1)) (cI 2147483587))))
noncomputable def zaQ:List A→Mo A:=fnF 3 zjy
noncomputable def zgE:MS :=
 (sSeq (sAsg (cI 0) (gN 2))
  (sSeq (sIf (zaB (vOp gLt (vVar 1) (vCl gLen (zac (vVar 0) a0))))
   (sAsg (vOp (gMod) (vOp gIx (vVar 0) (vVar 1)) (cI 2147483647)) (gN 2))
   sNx)
  (sRet (vCl (zaq 2 zaQ) (zac (vVar 2) (zac (vOp (gAdd false) (vVar 1) (cI 101)) a0))))))
noncomputable def zbq:List A→Mo A:=fnF 3 zgE
end M
namespace M
open PySem V2
end M
namespace M
open PySem V2
noncomputable def zcB:MS :=
 (sSeq (sAsg (vOp gIx (vVar 0) (cI 0)) (gN 1))
  (sSeq (sAsg (vOp gIx (vVar 0) (cI 1)) (gN 2))
  (sSeq (sAsg (vOp gIx (vVar 0) (cI 2)) (gN 3))
  (sSeq (sAsg (vOp gIx (vVar 0) (cI 3)) (gN 4))
  (sSeq (sIf (vOrT (zaB (vOp gLt (vVar 1) (cI 0))) (vOrT (zaB (vOp gLt (vVar 2) (cI 0))) (zaB (vOp gLt (vVar 3) (cI 0)))))
   (sRet (cB false))
   sNx)
  (sRet (vOp gEq (vOp gEq (vVar 1) (cI 0)) (vOp gEq (vCl gLen (zac (vVar 4) a0)) (cI 0)))))))))
noncomputable def za5:List A→Mo A:=fnF 5 zcB
noncomputable def zgv:MS :=
 (sRet (vAnd (vOp gEq (vOp gIx (vVar 0) (cI 1)) (vVar 1)) (vOp gEq (vOp gIx (vVar 0) (cI 2)) (vVar 1))))
noncomputable def zcz:List A→Mo A:=fnF 2 zgv
noncomputable def zfI:MS :=
 (sSeq (sAsg (vOp gIx (vVar 0) (cI 1)) (gN 2))
  (sSeq (sAsg (vOp gIx (vVar 0) (cI 2)) (gN 3))
  (sRet (vAnd (vOp gLe (vVar 2) (vVar 3)) (vOp gLe (vOp (gSub) (vVar 3) (vVar 2)) (vVar 1))))))
noncomputable def zcV:List A→Mo A:=fnF 4 zfI
noncomputable def zfa:MS :=
 (sRet (vOr (vOp gEq (vOp gIx (vVar 1) (cI 0)) (vOp gIx (vVar 0) (cI 0))) (vOp gLe (vOp gIx (vVar 1) (cI 2)) (vOp (gAdd false) (vOp (gAdd false) (vOp gIx (vVar 0) (cI 1)) (vVar 2)) (cI 1)))))
noncomputable def zcf:List A→Mo A:=fnF 3 zfa
noncomputable def zdb:MS :=
 (sSeq (sIf (vOrT (zaB (vOp gLt (vOp gIx (vVar 1) (cI 0)) (vOp gIx (vVar 0) (cI 0)))) (vOrT (zaB (vOp gLe (vOp gIx (vVar 1) (cI 1)) (vOp gIx (vVar 0) (cI 1)))) (zaB (vOp gLe (vOp gIx (vVar 1) (cI 2)) (vOp gIx (vVar 0) (cI 2))))))
   (sRet (cB false))
   sNx)
  (sRet (vCl (zaq 3 zcf) (zac (vVar 0) (zac (vVar 1) (zac (vVar 2) a0))))))
noncomputable def zbB:List A→Mo A:=fnF 3 zdb
noncomputable def zbz:MS :=
 (sSeq (sAsg (vOp gIx (vVar 0) (cI 0)) (gN 2))
  (sSeq (sAsg (vOp gIx (vVar 0) (cI 1)) (gN 3))
  (sSeq (sAsg (vOp gIx (vVar 0) (cI 3)) (gN 4))
  (sSeq (sAsg (vOp gIx (vVar 4) (vVar 1)) (gN 5))
  (sSeq (sIf (zmw (zaB (vOp gEq (vVar 1) (cI 0))) (zh3 (zaB (vCl (zaq 2 zcz) (zac (vVar 5) (zac (cI 1) a0))))))
   (sRet (cB false))
   sNx)
  (sSeq (sIf (zmw (zaB (vOp gEq (vVar 1) (vOp (gSub) (vCl gLen (zac (vVar 4) a0)) (cI 1)))) (zh3 (zaB (vCl (zaq 2 zcz) (zac (vVar 5) (zac (vVar 2) a0))))))
   (sRet (cB false))
   sNx)
  (sSeq (sIf (zh3 (zaB (vCl (zaq 2 zcV) (zac (vVar 5) (zac (vVar 3) a0)))))
   (sRet (cB false))
   sNx)
  (sRet (vOr (vOp gEq (vVar 1) (cI 0)) (vCl (zaq 3 zbB) (zac (vOp gIx (vVar 4) (vOp (gSub) (vVar 1) (cI 1))) (zac (vVar 5) (zac (vVar 3) a0)))))))))))))
noncomputable def zaX:List A→Mo A:=fnF 6 zbz
end M
namespace V2
open PySem PySem.Spec PyProof.Rows L2
def valA (kvs:List (Key × A)) (k:Key):Option A:=(kvs.find? fun kv=>decide (kv.1=k)).map (·.2)
def putA (kvs:List (Key × A)) (k:Key) (a:A):List (Key × A) :=
 if kvs.any fun kv=>decide (kv.1=k) then kvs.map (fun kv=>if kv.1=k then (kv.1,a) else kv) else kvs ++ [(k,a)]
def keyA:A→Option Key
 | .int i=>some (.inl i)
 | .str x=>some (.inr x)
 | _=>none
section
variable {K:PySem.W.Frag} {G:Hp} {ι:List Addr}
theorem zhs {v:V} {a:A} {k:Key} (d:Den K G ι v a) (h:keyA a=some k):v=kV k:=by
 cases a with
 | int i=>simp only [keyA,Option.some.injEq] at h;subst h;simp only [Den] at d;exact d
 | str i=>simp only [keyA,Option.some.injEq] at h;subst h;simp only [Den] at d;exact d
 | _=>simp [keyA] at h
theorem zkg {k:Key}:∀ {ws:List (Key × V)} {kvs:List (Key × A)},ws.map (·.1)=kvs.map (·.1)→DenL K G ι (ws.map (·.2)) (kvs.map (·.2))→(∀ a,valA kvs k=some a→∃ v,valV ws k=some v∧Den K G ι v a)∧(valA kvs k=none→valV ws k=none)
 | [],[],_,_=>⟨fun a h=>(by cases h),fun _=>rfl⟩
 | [],_ :: _,h,_=>by simp at h
 | _ :: _,[],h,_=>by simp at h
 | p :: ws,q :: kvs,h,d=>by
  simp only [List.map_cons,List.cons.injEq] at h
  obtain ⟨x,r,e,d1,d2⟩:=d.zcn
  simp only [List.map_cons,List.cons.injEq] at e
  obtain ⟨e1,e2⟩:=e
  obtain ⟨i1,i2⟩:=zkg (k:=k) h.2 (e2 ▸ d2)
  by_cases hk:q.1=k
  ·have hp:p.1=k:=h.1.trans hk
   refine ⟨fun a ha=>?_,fun hn=>?_⟩
   ·simp only [valA,List.find?_cons,hk,decide_true,Option.map_some,Option.some.injEq] at ha
    exact ⟨p.2,by simp [valV,hp],by rw [← ha,e1];exact d1⟩
   ·simp [valA,hk] at hn
  ·have hp:¬ p.1=k:=fun z=>hk (h.1.symm.trans z)
   have ev:valV (p :: ws) k=valV ws k:=by simp [valV,hp]
   have ea:valA (q :: kvs) k=valA kvs k:=by simp [valA,hk]
   rw [ev,ea]
   exact ⟨i1,i2⟩
theorem zpK {k:Key} {ws:List (Key × V)} {kvs:List (Key × A)} (h:ws.map (·.1)=kvs.map (·.1)):(ws.any fun kv=>decide (kv.1=k))=(kvs.any fun kv=>decide (kv.1=k)):=by
 have e1:(ws.any fun kv=>decide (kv.1=k))=(ws.map (·.1)).any fun x=>decide (x=k):=by rw [List.any_map];rfl
 have e2:(kvs.any fun kv=>decide (kv.1=k))=(kvs.map (·.1)).any fun x=>decide (x=k):=by rw [List.any_map];rfl
 rw [e1,e2,h]
theorem zkI {k:Key} {v:V} {a:A} {ws:List (Key × V)} {kvs:List (Key × A)} (h:ws.map (·.1)=kvs.map (·.1)):(putK ws k v).map (·.1)=(putA kvs k a).map (·.1):=by
 unfold putK putA
 rw [zpK h]
 split
 ·rw [List.map_map,List.map_map]
  have e1:ws.map ((·.1) ∘ fun kv:Key × V=>if kv.1=k then (kv.1,v) else kv)=ws.map (·.1):=List.map_congr_left fun x _=>by simp only [Function.comp];split <;> rfl
  have e2:kvs.map ((·.1) ∘ fun kv:Key × A=>if kv.1=k then (kv.1,a) else kv)=kvs.map (·.1):=List.map_congr_left fun x _=>by simp only [Function.comp];split <;> rfl
  rw [e1,e2,h]
 ·rw [List.map_append,List.map_append,h];rfl
theorem znD {k:Key} {v:V} {a:A} (dv:Den K G ι v a):∀ {ws:List (Key × V)} {kvs:List (Key × A)},ws.map (·.1)=kvs.map (·.1)→DenL K G ι (ws.map (·.2)) (kvs.map (·.2))→DenL K G ι ((ws.map fun kv=>if kv.1=k then (kv.1,v) else kv).map (·.2)) ((kvs.map fun kv=>if kv.1=k then (kv.1,a) else kv).map (·.2))
 | [],[],_,_ => .nil
 | [],_ :: _,h,_=>by simp at h
 | _ :: _,[],h,_=>by simp at h
 | p :: ws,q :: kvs,h,d=>by
  simp only [List.map_cons,List.cons.injEq] at h
  obtain ⟨x,r,e,d1,d2⟩:=d.zcn
  simp only [List.map_cons,List.cons.injEq] at e
  obtain ⟨e1,e2⟩:=e
  have ih:=znD (k:=k) dv h.2 (e2 ▸ d2)
  simp only [List.map_cons]
  refine .cons ?_ ih
  rw [h.1]
  split
  ·exact dv
  ·rw [e1];exact d1
theorem zmR {k:Key} {v:V} {a:A} {ws:List (Key × V)} {kvs:List (Key × A)} (h:ws.map (·.1)=kvs.map (·.1)) (d:DenL K G ι (ws.map (·.2)) (kvs.map (·.2))) (dv:Den K G ι v a):DenL K G ι ((putK ws k v).map (·.2)) ((putA kvs k a).map (·.2)):=by
 unfold putK putA
 rw [zpK h]
 split
 ·exact znD dv h d
 ·rw [List.map_append,List.map_append]
  exact d.append (.cons dv .nil)
def ze8 (Ω:Sto):A→Option (Nat × List (Key × A))
 | .cel k=>match Ω[k]? with
  | some (.dct kvs)=>some (k,kvs)
  | _=>none
 | _=>none
theorem zeu {H:Hp} {Ω:Sto} {v:V} {a:A} {k:Nat} {kvs:List (Key × A)} (w:Wd K G ι Ω H) (d:Den K G ι v a) (h:ze8 Ω a=some (k,kvs)):∃ p ws,v = .ref p∧ι[k]? = some p∧G p=none∧H p=some (.dK ws)∧ws.map (·.1)=kvs.map (·.1)∧DenL K G ι (ws.map (·.2)) (kvs.map (·.2)):=by
 cases a with
 | cel j =>
  simp only [ze8] at h
  split at h
  ·rename_i es e
   cases h
   simp only [Den] at d
   obtain ⟨p,rfl,hk⟩:=d
   obtain ⟨g,ws,h3,h4,h5⟩:=w.cel k _ p e hk
   exact ⟨p,ws,rfl,hk,g,h3,h4,h5⟩
  ·cases h
 | _=>simp [ze8] at h
theorem zeg {Ω:Sto} {k:Nat} {kvs:List (Key × A)} (h:Ω[k]? = some (.dct kvs)):ze8 Ω (.cel k)=some (k,kvs):=by simp [ze8,h]
end
section
variable {X:Cx} {W:WX} {o i e:Expr} {pos:Pos} {fo fi fe:Ev→Mo A}
@[simp] def zqH:Ev→Mo A:=fun _ Ω=>some (.ok (.cel Ω.length),Ω ++ [.dct []])
theorem zmr:VE X W (.Dict [] [] pos) zqH:=by
 refine ⟨_,zq1,fun G ι Ω H σ ρ Q w r h=>?_⟩
 intro p hp
 refine h _ _ G (ι ++ [p]) (Ext.cell p) (w.cell hp ⟨w.zhS hp,[],zaI,rfl, .nil⟩) ?_
 simp only [Den]
 exact ⟨p,rfl,by rw [← w.len];simp⟩
@[simp] def zqO (o i:A):Mo A:=fun Ω=>match ze8 Ω o,keyA i with
 | some (_,kvs),some k=>match valA kvs k with
  | some a=>some (.ok a,Ω)
  | none=>none
 | _,_=>none
theorem zpl (hu:X.A.units + 1 < cLine) (ho:VE X W o fo) (hi:VE X W i fi) (hs:NoSl i):VE X W (.Subscript o i pos) (vOp zqO fo fi):=by
 obtain ⟨t,p1,s1⟩:=ho
 obtain ⟨u,p2,s2⟩:=hi
 refine ⟨_,ztv hu p1 p2 hs,fun G ι Ω H σ ρ Q w r h=>?_⟩
 refine s1 G ι Ω H σ ρ _ w r (Post.mb h fun x Ω1 v H1 G1 ι1 x1 w1 d1 h1=>?_)
 refine s2 G1 ι1 Ω1 H1 σ ρ _ w1 (r.ext x1) (Post.mb h1 fun y Ω2 u H2 G2 ι2 x2 w2 d2 h2=>?_)
 unfold zqO at h2
 split at h2
 ·rename_i k0 kvs k e1 e2
  split at h2
  ·rename_i a ea
   obtain ⟨p,ws,rfl,hk,g,q1,q2,q3⟩:=zeu w2 (d1.ext x2) e1
   obtain ⟨v',v1,v2⟩:=(zkg q2 q3).1 a ea
   rw [zhs d2 e2]
   exact ⟨p,v',rfl,by rw [← v1];exact DGet.k q1,h2 v' H2 G2 ι2 (Ext.refl _ _) w2 v2⟩
  ·exact False.elim h2
 ·exact False.elim h2
@[simp] def zsf (o i z:A):Mo A:=fun Ω=>match ze8 Ω o,keyA i with
 | some (_,kvs),some k=>some (.ok ((valA kvs k).getD z),Ω)
 | _,_=>none
def isD (Ω:Sto) (a:A):Prop:=∃ k kvs,ze8 Ω a=some (k,kvs)
open Classical in
@[simp] noncomputable def zpP (fo fi fe:Ev→Mo A):Ev→Mo A:=fun ρ=>mb (fo ρ) fun o Ω=>if isD Ω o then mb (fi ρ) (fun i=>mb (fe ρ) fun z=>zsf o i z) Ω else none
theorem znQ {apos:Pos} (hu:X.A.units + 1 < cLine) (ho:VE X W o fo) (hi:VE X W i fi) (he:VE X W e fe) (m:M2 X o "get" apos i e pos):VE X W (.Call (.Attribute o "get" apos) [i,e] [] pos) (zpP fo fi fe):=by
 obtain ⟨t,p1,s1⟩:=ho
 obtain ⟨u,p2,s2⟩:=hi
 obtain ⟨u',p3,s3⟩:=he
 refine ⟨_,zrl hu p1 p2 p3 m,fun G ι Ω H σ ρ Q w r h=>?_⟩
 refine s1 G ι Ω H σ ρ _ w r (Post.mb h fun x Ω1 v H1 G1 ι1 x1 w1 d1 h1=>?_)
 split at h1
 ·rename_i hd
  obtain ⟨k0,kvs0,e0⟩:=hd
  obtain ⟨p,ws,rfl,hk,g,q1,q2,q3⟩:=zeu w1 d1 e0
  refine ⟨p,rfl, .inl ⟨ws, .inl q1⟩,?_⟩
  refine s2 G1 ι1 Ω1 H1 σ ρ _ w1 (r.ext x1) (Post.mb h1 fun y Ω2 u H2 G2 ι2 x2 w2 d2 h2=>?_)
  refine s3 G2 ι2 Ω2 H2 σ ρ _ w2 ((r.ext x1).ext x2) (Post.mb h2 fun z Ω3 u3 H3 G3 ι3 x3 w3 d3 h3=>?_)
  unfold zsf at h3
  split at h3
  ·rename_i k1 kvs k e1 e2
   obtain ⟨p',ws',hp',hk',g',r1,r2,r3⟩:=zeu w3 (d1.ext (x2.trans x3)) e1
   cases hp'
   rw [zhs (d2.ext x3) e2]
   refine ⟨valV ws' k,DGet.k r1,?_⟩
   obtain ⟨i1,i2⟩:=zkg (k:=k) r2 r3
   cases ev:valA kvs k with
   | none =>
    rw [ev] at h3
    rw [i2 ev]
    exact h3 _ H3 G3 ι3 (Ext.refl _ _) w3 d3
   | some a =>
    rw [ev] at h3
    obtain ⟨v',v1,v2⟩:=i1 a ev
    rw [v1]
    exact h3 _ H3 G3 ι3 (Ext.refl _ _) w3 v2
  ·exact False.elim h3
 ·exact False.elim h1
@[simp] def setD (o i v:A) (Ω:Sto):Option Sto:=match ze8 Ω o,keyA i with
 | some (k,kvs),some key=>if kvs.length < sizeLine then some (Ω.set k (.dct (putA kvs key v))) else none
 | _,_=>none
@[simp] def zlQ (fe fo fi:Ev→Mo A):MS:=fun ρ=>sM (fe ρ) ρ fun a=>sM (fo ρ) ρ fun o=>sM (fi ρ) ρ fun i Ω=>match setD o i a Ω with
 | some Ω'=>some (.nx,ρ,Ω')
 | none=>none
theorem zkp {pos':Pos} (hu:X.A.units + 1 < cLine) (ho:VE X W o fo) (hi:VE X W i fi) (he:VE X W e fe) (hs:swapsWith e (some (.Subscript o i pos')) pos.line X.env=pure false:=by rfl):VS X W (.Assign [.Subscript o i pos'] e pos) (zlQ fe fo fi):=by
 obtain ⟨t,p1,s1⟩:=ho
 obtain ⟨u,p2,s2⟩:=hi
 obtain ⟨u',p3,s3⟩:=he
 refine ⟨_,ztx hu p1 p2 p3 hs,fun G ι Ω H σ ρ D w r h=>?_⟩
 refine s3 G ι Ω H σ ρ _ w r (zcY.sM h r fun z Ω1 v H1 G1 ι1 x1 w1 d1 h1=>?_)
 refine s1 G1 ι1 Ω1 H1 σ ρ _ w1 (r.ext x1) (zcY.sM h1 (r.ext x1) fun x Ω2 vo H2 G2 ι2 x2 w2 d2 h2=>?_)
 refine s2 G2 ι2 Ω2 H2 σ ρ _ w2 ((r.ext x1).ext x2) (zcY.sM h2 ((r.ext x1).ext x2) fun y Ω3 vi H3 G3 ι3 x3 w3 d3 h3=>?_)
 unfold setD at h3
 split at h3
 ·rename_i Ω' e'
  split at e'
  ·rename_i k kvs key e1 e2
   split at e'
   ·rename_i hl
    cases e'
    obtain ⟨p,ws,rfl,hk,g,q1,q2,q3⟩:=zeu w3 (d2.ext x3) e1
    rw [zhs d3 e2]
    have hwl:ws.length=kvs.length:=by have:=congrArg List.length q2;simpa using this
    refine ⟨p,_,rfl,DPut.k q1 (by rw [hwl];exact hl),?_⟩
    exact zmK (w3.put (c := .dct (putA kvs key z)) hk g ⟨g,_,zaI,zkI q2,zmR q2 q3 (d1.ext (x2.trans x3))⟩) (((r.ext x1).ext x2).ext x3) h3
   ·cases e'
  ·cases e'
 ·exact False.elim h3
@[simp] def gDIn (neg:Bool) (i o:A):Mo A:=fun Ω=>match ze8 Ω o,keyA i with
 | some (_,kvs),some k=>some (.ok (.bl (if neg then !(valA kvs k).isSome else (valA kvs k).isSome)),Ω)
 | _,_=>none
theorem ztb {K:PySem.W.Frag} {neg:Bool} {ty td:TE} (h1:Sim K (Den K) W ty fi) (h2:Sim K (Den K) W td fo):Sim K (Den K) W (if neg then zqa ty td else tDIn ty td) (vOp (gDIn neg) fi fo):=by
 have key:∀ G ι Ω H σ ρ (Q:VK),Wd K G ι Ω H→EnvR K G ι σ ρ→Post K (Den K) W G ι σ Q (vOp (gDIn neg) fi fo ρ Ω)→ty σ H fun y H1=>td σ H1 fun x H2=>∃ a o,x = .ref a∧DGet H2 a y o∧Q (.bl (if neg then !o.isSome else o.isSome)) H2:=by
  intro G ι Ω H σ ρ Q w r h
  refine h1 G ι Ω H σ ρ _ w r (Post.mb h fun y Ω1 v H1 G1 ι1 x1 w1 d1 h1'=>?_)
  refine h2 G1 ι1 Ω1 H1 σ ρ _ w1 (r.ext x1) (Post.mb h1' fun x Ω2 u H2 G2 ι2 x2 w2 d2 h2'=>?_)
  unfold gDIn at h2'
  split at h2'
  ·rename_i k0 kvs k e1 e2
   obtain ⟨p,ws,rfl,hk,g,q1,q2,q3⟩:=zeu w2 d2 e1
   rw [zhs (d1.ext x2) e2]
   refine ⟨p,valV ws k,rfl,DGet.k q1,?_⟩
   have eq:(valV ws k).isSome=(valA kvs k).isSome:=by
    obtain ⟨i1,i2⟩:=zkg (k:=k) q2 q3
    cases ev:valA kvs k with
    | none=>simp [i2 ev]
    | some a=>obtain ⟨v',v1,_⟩:=i1 a ev;simp [v1]
   rw [eq]
   exact h2' _ H2 G2 ι2 (Ext.refl _ _) w2 (by simp only [Den])
  ·exact False.elim h2'
 cases neg with
 | true=>exact key
 | false=>exact key
theorem zo6 (hu:X.A.units + 1 < cLine) (hi:VE X W i fi) (ho:VE X W o fo) (h1:behindInMarks .NotIn o=false:=by rfl):VT X W (.Compare i [.NotIn] [o] pos) (zaB (vOp (gDIn true) fi fo)):=by
 obtain ⟨t,p1,s1⟩:=hi
 obtain ⟨u,p2,s2⟩:=ho
 exact ⟨_,zvI (zoH hu p1 p2) h1,zj3 (ztb (neg:=true) s1 s2)⟩
def intKeys:List (Key × A)→Option (List Int)
 | []=>some []
 | (.inl i,_) :: r=>(intKeys r).map (i :: ·)
 | _=>none
theorem zjx:∀ {kvs:List (Key × A)} {ns:List Int},intKeys kvs=some ns→kvs.map (·.1)=ns.map Sum.inl
 | [],ns,h=>by simp only [intKeys,Option.some.injEq] at h;subst h;rfl
 | (.inl i,_) :: r,ns,h=>by
  simp only [intKeys,Option.map_eq_some_iff] at h
  obtain ⟨ms,h1,rfl⟩:=h
  simp [zjx h1]
 | (.inr i,_) :: r,ns,h=>by simp [intKeys] at h
@[simp] def zqA (c:Bool) (as:List A):Mo A:=fun Ω=>match as with
 | [a]=>(match ze8 Ω a with
  | some (_,kvs)=>(match intKeys kvs with
   | some ns=>if ns.length < 64 then mkL c ((sortI ns).map A.int) Ω else none
   | none=>none)
  | none=>none)
 | _=>none
theorem zqm (hc:X.calm=true) (c:Bool):zej X W (.builtin "sorted") (zqA c):=by
 refine ⟨_,zkZ hc,?_⟩
 intro G ι Ω H σ xs as Q w d h
 unfold zqA at h
 split at h
 ·rename_i a
  split at h
  ·rename_i k kvs e
   split at h
   ·rename_i ns en
    split at h
    ·rename_i h64
     obtain ⟨x,rfl,d1⟩:=den1 d
     obtain ⟨p,ws,rfl,hk,g,q1,q2,q3⟩:=zeu w d1 e
     refine ⟨p,ws,ns,rfl,q1,by rw [q2];exact zjx en,h64,fun ms l hp hs hl=>?_⟩
     rw [zhW hp hs]
     exact zgP w hl (zgO _) h
    ·exact False.elim h
   ·exact False.elim h
  ·exact False.elim h
 ·exact False.elim h
end
end V2
namespace V2
open PySem PySem.Spec PyProof.Rows L2
section
variable {X:Cx} {W:WX} {x:Str} {e:Expr} {es:List Expr} {np cpos pos:Pos} {fs:Ev→Mo (List A)}
@[simp] def zpT (x:Str) (f:Ev→Mo (List A)):MS:=fun ρ=>sM (f ρ) ρ fun as Ω=>if as.length ≤ sizeLine then some (.exc ⟨x,[]⟩,ρ,Ω) else none
theorem zq9 {C:Addr} (T:zhj X W) (hc:X.calm=true) (O:OwnE X.K C) (hg:Gl X x) (hm:X.mg x=some (.ref C)) (hK:PySem.W.nsIn X.K mainGlobals x=some (some (.ref C))) (ha:VA X W (e :: es) fs)
  (hdb:(x == ("__debug__" : Str))=false:=by decide) (he:starEach (e :: es) X.env=(false,eval e X.env) :: starEach es X.env:=by rfl) (hpl:(backTo cpos (starEach (e :: es) X.env)).any (·.1)=false:=by rfl) :
  VS X W (.Raise (some (.Call (.Name x np) (e :: es) [] cpos)) none pos) (zpT x fs):=by
 obtain ⟨t,p,s⟩:=ha
 refine ⟨_,zro T hc O hg hm p hdb he hpl,fun G ι Ω H σ ρ D w r h=>?_⟩
 refine s G ι Ω H σ ρ _ w r (zcY.sM h r fun as Ω1 vs H1 G1 ι1 x1 w1 d1 h1=>?_)
 split at h1
 ·rename_i hl
  exact ⟨by rw [d1.length];exact hl,h1 σ H1 G1 ι1 (Ext.refl _ _) w1 (r.ext x1) _ _ ⟨⟨C,hK,rfl⟩, .inl ⟨rfl,rfl⟩⟩⟩
 ·exact False.elim h1
end
def VS0 (X:Cx) (W:WX) (st:Stmt) (f:MS):Prop:=∃ t,PS0 X st t∧SimS X.K W t f
def VSs0 (X:Cx) (W:WX) (st:List Stmt) (f:MS):Prop:=∃ t,PSs0 X st t∧SimS X.K W t f
section
variable {X:Cx} {W:WX} {st:Stmt} {rest:List Stmt} {f g:MS}
theorem VS.v0 (h:VS X W st f):VS0 X W st f:=let ⟨t,p,s⟩:=h; ⟨t,p.ps0,s⟩
theorem VSs.v0 (h:VSs X W rest f):VSs0 X W rest f:=let ⟨t,p,s⟩:=h; ⟨t,p.ps0,s⟩
theorem zek (h1:VS0 X W st f) (h2:VSs0 X W rest g):VSs0 X W (st :: rest) (sSeq f g):=by
 obtain ⟨t,p1,s1⟩:=h1
 obtain ⟨u,p2,s2⟩:=h2
 exact ⟨_,zqt p1 p2,zoI s1 s2⟩
end
def zqF (K:PySem.W.Frag) (W:WX) (f:MS):TS:=fun D σ H=>∃ G ι Ω ρ,Wd K G ι Ω H∧EnvR K G ι σ ρ∧zcY K W G ι D (f ρ Ω)
theorem VSs.can {X:Cx} {W:WX} {st:List Stmt} {f:MS} (h:VSs X W st f):PSs X st (zqF X.K W f):=by
 obtain ⟨t,p,s⟩:=h
 exact fun pins sh σ H D I ⟨G,ι,Ω,ρ,w,r,q⟩=>p pins sh σ H D I (s G ι Ω H σ ρ D w r q)
theorem VSs0.can {X:Cx} {W:WX} {st:List Stmt} {f:MS} (h:VSs0 X W st f):PSs0 X st (zqF X.K W f):=by
 obtain ⟨t,p,s⟩:=h
 exact fun sh σ H D I ⟨G,ι,Ω,ρ,w,r,q⟩=>p sh σ H D I (s G ι Ω H σ ρ D w r q)
def zlT (i:Nat):OS→OS
 | some (.exc _,_,_)=>none
 | some (o,ρ,Ω)=>some (o,ρ.set i none,Ω)
 | none=>none
section
variable {P:Program} {w:World} {K:PySem.W.Frag} {mg:Str→Option Value} {base:Heap}
theorem DefN.of0 {x:Str} {st:Stmt} {N ps:List Str} {k:Nat} {b:MS} (h:HasFn K mg x st) (S:zaz N ps (zae st))
  (bind:∀ (kV doc pm:Value) (an:Option Addr) (cdv ct:Value) (us:List Value),us.length=ps.length→bindArgs (PySem.W.fnOf x x (zax st) (zap st) (zae st) .none kV doc pm an cdv ct) ⟨us,[]⟩ = pure (ps.zip us))
  (hbody:∀ (f:Addr) (cdv:Value) (A:Around) (outer:List Env) (s:Shared) (H:Hp) (E:XK),Room k (A.deeper (envOfC x (zae st) s.heap.objs.size f cdv)) →
   VSs0 (cxOf CX0 P w K mg base N x (zae st) f cdv A outer s H E).nox noW (zap st) b):DefN P w K mg base x (k + 1) ps (fnF N.length b):=by
 refine Def.of0 h S bind (fun vs H Q E h=>h.1) fun f cdv A outer s H vs Q E hr hsp=>?_
 obtain ⟨t,p,q⟩:=hbody f cdv A outer s H E hr
 exact ⟨t,p,zmH (E:=fun _ _ _=>False) q hsp⟩
end
end V2
namespace V2
open PySem PySem.Spec PyProof.Rows L2
structure XTab (K:PySem.W.Frag) (rs ns:List Str):Prop where
 xc:∀ n ∈ ns,∀ D,PySem.W.nsIn K mainGlobals n=some (some (.ref D))→XC K D
 sub:∀ n ∈ rs,∀ m ∈ ns,∀ D C,PySem.W.nsIn K mainGlobals n=some (some (.ref D))→PySem.W.nsIn K mainGlobals m=some (some (.ref C))→PySem.W.subIn K (.ref D) (.ref C)=some (n == m || m == ("RankError" : Str))
 ve:∀ n ∈ rs,∀ D,PySem.W.nsIn K mainGlobals n=some (some (.ref D))→PySem.W.subIn K (.ref D) (.type "ValueError")=some true
 rn:∀ n ∈ rs,n ∈ ns
def xtab (rs ns:List Str) (n m:Str):Option Bool:=if n ∈ rs∧m ∈ ns then some (n == m || m == ("RankError" : Str)) else none
def xtt (rs:List Str) (n:Str) (T:String):Option Bool:=if n ∈ rs∧T = "ValueError" then some true else none
theorem XTab.own {K:PySem.W.Frag} {rs ns:List Str} (T:XTab K rs ns) (n m:Str) (b:Bool) (D C:Addr) (h:xtab rs ns n m=some b) (hn:PySem.W.nsIn K mainGlobals n=some (some (.ref D))) (hm:PySem.W.nsIn K mainGlobals m=some (some (.ref C))):PySem.W.kitOne K (.ref D) (.ref C)=some b:=by
 unfold xtab at h
 split at h
 ·rename_i q
  cases h
  exact ztT (T.xc _ (T.rn _ q.1) _ hn) (T.xc _ q.2 _ hm) (T.sub _ q.1 _ q.2 _ _ hn hm)
 ·cases h
theorem XTab.bt {K:PySem.W.Frag} {rs ns:List Str} (T:XTab K rs ns) (n:Str) (Y:String) (b:Bool) (D:Addr) (h:xtt rs n Y=some b) (hn:PySem.W.nsIn K mainGlobals n=some (some (.ref D))):PySem.W.kitOne K (.ref D) (.type Y)=some b:=by
 unfold xtt at h
 split at h
 ·rename_i q
  cases h
  obtain ⟨q,rfl⟩:=q
  exact zq5 (T.ve _ q _ hn) znX
 ·cases h
def anyN (tb:Str→Option Bool):List Str→Option Bool
 | []=>some false
 | m :: r=>match tb m with
  | some true=>some true
  | some false=>anyN tb r
  | none=>none
def glOf:A→Option Str
 | .gl m=>some m
 | _=>none
def zka:List A→Option (List Str)
 | []=>some []
 | a :: r=>(glOf a).bind fun m=>(zka r).map fun ms=>m :: ms
def isA (tb:Str→Option Bool) (tt:String→Option Bool):A→Option Bool
 | .gl m=>tb m
 | .ty T=>tt T
 | .tup as=>(zka as).bind (anyN tb)
 | _=>none
@[simp] def gIsX (p:Addr) (tb:Str→Option Bool) (tt:String→Option Bool) (as:List A):Mo A:=fun Ω=>match as with
 | [.adr q,a]=>if q=p∧tt "ValueError" = some true then (match isA tb tt a with
  | some b=>some (.ok (.bl b),Ω)
  | none=>none) else none
 | _=>none
section
variable {K:PySem.W.Frag} {rs ns:List Str} {G:Hp} {ι:List Addr}
theorem zq3:∀ {as:List A} {ms:List Str} {xs:List V},zka as=some ms→DenL K G ι xs as→∃ cs:List Addr,xs=cs.map V.ref∧ms.map (fun m=>PySem.W.nsIn K mainGlobals m)=cs.map fun C=>some (some (.ref C)):=by
 intro as
 induction as with
 | nil =>
  intro ms xs h d
  cases h
  simp only [DenL] at d;subst d
  exact ⟨[],rfl,rfl⟩
 | cons a r ih =>
  intro ms xs h d
  simp only [DenL] at d
  obtain ⟨x,xr,rfl,d1,d2⟩:=d
  unfold zka at h
  rw [Option.bind_eq_some_iff] at h
  obtain ⟨m,e1,h⟩:=h
  rw [Option.map_eq_some_iff] at h
  obtain ⟨ms',e2,rfl⟩:=h
  obtain ⟨cs,rfl,q⟩:=ih e2 d2
  cases a with
  | gl y =>
   simp only [glOf,Option.some.injEq] at e1;subst e1
   simp only [Den] at d1
   obtain ⟨C,hC,rfl⟩:=d1
   exact ⟨C :: cs,rfl,by rw [List.map_cons,List.map_cons,hC,q]⟩
  | _=>cases e1
theorem ztY (hT:XTab K rs ns) {n:Str} {D:Addr} (hn:PySem.W.nsIn K mainGlobals n=some (some (.ref D))):∀ {ms:List Str} {cs:List Addr} {b:Bool},ms.map (fun m=>PySem.W.nsIn K mainGlobals m)=cs.map (fun C=>some (some (.ref C)))→anyN (xtab rs ns n) ms=some b→PySem.W.kitAny K (.ref D) (cs.map Value.ref)=some b:=by
 intro ms
 induction ms with
 | nil =>
  intro cs b e h
  cases cs with
  | nil=>exact h
  | cons=>cases e
 | cons m r ih =>
  intro cs b e h
  cases cs with
  | nil=>cases e
  | cons C cs =>
   simp only [List.map_cons,List.cons.injEq] at e
   unfold anyN at h
   split at h
   ·rename_i q
    cases h
    simp only [List.map_cons,PySem.W.kitAny,hT.own _ _ _ _ _ q hn e.1]
   ·rename_i q
    simp only [List.map_cons,PySem.W.kitAny,hT.own _ _ _ _ _ q hn e.1]
    exact ih e.2 h
   ·cases h
end
theorem zwd {X:Cx} {W:WX} {rs ns:List Str} {p:Addr} {oe:Obj} {n:Str} (hp:(p,oe) ∈ X.pn) (hT:XTab X.K rs ns) (he:∃ E,PySem.W.nsIn X.K mainGlobals n=some (some (.ref E))∧oe.cls = .ref E):zej X W (.builtin "isinstance") (gIsX p (xtab rs ns n) (xtt rs n)):=by
 refine ⟨_,zrJ hp,?_⟩
 intro G ι Ω H σ xs as Q w d h
 obtain ⟨E,hE,hc⟩:=he
 unfold gIsX at h
 split at h
 ·rename_i q a
  split at h
  ·rename_i hq
   obtain ⟨rfl,hv⟩:=hq
   split at h
   ·rename_i b e
    obtain ⟨x,y,rfl,d1,d2⟩:=den2 d
    simp only [Den] at d1;subst d1
    have hr:n ∈ rs:=by
     unfold xtt at hv
     split at hv
     ·rename_i z;exact z.1
     ·cases hv
    refine ⟨E,hc,hT.xc _ (hT.rn _ hr) _ hE,?_⟩
    have fin:Q (.bl b) H:=h _ H G ι (Ext.refl _ _) w (by simp only [Den])
    rw [hc]
    cases a with
    | gl m =>
     simp only [Den] at d2
     obtain ⟨C,hC,rfl⟩:=d2
     exact .inl ⟨C,b,rfl,hT.own _ _ _ _ _ e hE hC,fin⟩
    | ty T =>
     simp only [Den] at d2;subst d2
     exact .inr (.inl ⟨T,b,rfl,hT.bt _ _ _ _ e hE,fin⟩)
    | tup as =>
     simp only [Den] at d2
     obtain ⟨a,ys,rfl,hG,dl⟩:=d2
     unfold isA at e
     rw [Option.bind_eq_some_iff] at e
     obtain ⟨ms,e1,e2⟩:=e
     obtain ⟨cs,rfl,q⟩:=zq3 e1 dl
     exact .inr (.inr ⟨a,cs,b,rfl,w.sub _ _ hG,ztY hT hE q e2,fin⟩)
    | _=>cases e
   ·exact False.elim h
  ·exact False.elim h
 ·exact False.elim h
end V2
namespace V2
open PySem PySem.Spec PyProof.Rows L2
end V2
namespace V2
open PySem PySem.Spec PyProof.Rows L2
def ClsN (K:PySem.W.Frag) (mg:Str→Option Value) (x:Str):Prop:=∃ C,XC K C∧mg x=some (.ref C)∧PySem.W.nsIn K mainGlobals x=some (some (.ref C))
def OwnC (K:PySem.W.Frag) (mg:Str→Option Value) (x:Str):Prop:=∃ C,OwnE K C∧mg x=some (.ref C)∧PySem.W.nsIn K mainGlobals x=some (some (.ref C))
section
variable {X:Cx} {W:WX} {x y:Str} {e:Expr} {es:List Expr} {np cpos pos hpos:Pos} {fs:Ev→Mo (List A)}
@[simp] def cG (x:Str):Ev→Mo A:=fun _=>ret (.gl x)
theorem zdG (h:ClsN X.K X.mg x) (hg:Gl X x) (hd:(x == ("__debug__" : Str))=false:=by decide):VE X W (.Name x pos) (cG x):=by
 obtain ⟨C,_,h1,h2⟩:=h
 exact zs8 hg h1 h2 hd
theorem zpk (T:zhj X W) (hc:X.calm=true) (O:OwnC X.K X.mg x) (hg:Gl X x) (ha:VA X W (e :: es) fs)
  (hdb:(x == ("__debug__" : Str))=false:=by decide) (he:starEach (e :: es) X.env=(false,eval e X.env) :: starEach es X.env:=by rfl) (hpl:(backTo cpos (starEach (e :: es) X.env)).any (·.1)=false:=by rfl) :
  VS X W (.Raise (some (.Call (.Name x np) (e :: es) [] cpos)) none pos) (zpT x fs):=by
 obtain ⟨C,h0,h1,h2⟩:=O
 exact zq9 T hc h0 hg h1 h2 ha hdb he hpl
end
theorem zhX {α:Type} {P:α→Prop}:∀ n ∈ ([] : List α),P n:=by simp
theorem zau {α:Type} {P:α→Prop} {a:α} {l:List α} (h:P a) (t:∀ n ∈ l,P n):∀ n ∈ a :: l,P n:=fun n hn=>by
 rcases List.mem_cons.mp hn with z | z
 ·exact z ▸ h
 ·exact t n z
theorem zdW {K:PySem.W.Frag} {n:Str} {C:Addr} {P:Addr→Prop} (h:PySem.W.nsIn K mainGlobals n=some (some (.ref C))) (p:P C):∀ D,PySem.W.nsIn K mainGlobals n=some (some (.ref D))→P D:=fun D hD=>by
 rw [h] at hD;cases hD;exact p
theorem za7 {K:PySem.W.Frag} {n m:Str} {C C':Addr} {P:Addr→Addr→Prop} (h:PySem.W.nsIn K mainGlobals n=some (some (.ref C))) (h':PySem.W.nsIn K mainGlobals m=some (some (.ref C'))) (p:P C C'):∀ D D',PySem.W.nsIn K mainGlobals n=some (some (.ref D))→PySem.W.nsIn K mainGlobals m=some (some (.ref D'))→P D D':=fun D D' hD hD'=>by
 rw [h] at hD;rw [h'] at hD';cases hD;cases hD';exact p
theorem DefV.ofN {P:Program} {w:World} {K:PySem.W.Frag} {mg:Str→Option Value} {base:Heap} {x:Str} {k:Nat} {ps:List Str} {F:List A→Mo A} (D:DefN P w K mg base x k ps F):DefV P w K mg base x k ps (noX F):=by
 obtain ⟨f,fd,h1,h2,h3,h4⟩:=D.ex
 refine ⟨f,fd,⟨fun vs H Q E h=>h.1,fun A outer s H args us vs Q E hr e0 hb r hsp=>?_⟩,h2,h3,h4⟩
 refine codeAny_mono (h1.run A outer s H args us vs Q (fun _ _ _=>False) hr e0 hb r ?_) fun r s' hq=>?_
 ·obtain ⟨hl,G,ι,Ω,ds,w,d,p⟩:=hsp
  refine ⟨hl,G,ι,Ω,ds,w,d,?_⟩
  revert p
  unfold noX
  generalize F ds Ω=q2
  intro p
  match q2,p with
  | some (.ok a,Ω2),p=>exact p
 ·cases r with
  | error ev=>exact False.elim hq
  | ok v=>cases v <;> exact hq
end V2
namespace L2
open PySem PySem.Spec PyProof.Rows
theorem Room.zg3 {k:Nat} {A:Around} (r:Room k A):A.units + 1 < cLine:=by have:=r.units;omega
end L2
namespace V2
theorem ziR:PySem.bootBuiltins "ValueError" = some (.type "ValueError"):=by decide +kernel
end V2
namespace L2
open PySem PySem.Spec PyProof.Rows
theorem Top1.nox {X:Cx} (t:Top1 X):Top1 X.nox:=⟨t.1,t.2,t.3⟩
theorem zhd {CX:CXT} {P:Program} {w:World} {K:PySem.W.Frag} {mg:Str→Option Value} {base:Heap} {N:List Str} {qual:Str} {scope:Scope} {f:Addr} {cd:Value} {A:Around} {outer:List Env} {s:Shared} {H:Hp} {E:XK}:Top1 (cxOf CX P w K mg base N qual scope f cd A outer s H E).nox:=Top1.nox zia
theorem zoZ {CX:CXT} {P:Program} {w:World} {K:PySem.W.Frag} {mg:Str→Option Value} {base:Heap} {N:List Str} {qual:Str} {scope:Scope} {f:Addr} {cd:Value} {A:Around} {outer:List Env} {s:Shared} {H:Hp} {E:XK} {W:WX} :
  zhj ((cxOf CX P w K mg base N qual scope f cd A outer s H E).nox.wish (XE (cxOf CX P w K mg base N qual scope f cd A outer s H E).nox W)) W:=zhj.of zhd rfl W
end L2
namespace M
open PySem V2
noncomputable def zeU:MS :=
 (zlQ (vOp (gAdd false) (zpP (vVar 1) (vVar 2) (cI 0)) (vVar 3)) (vVar 1) (vVar 2))
noncomputable def ziJ:Ev→Mo A :=
 (vLC false 1 [1] (vSeq (vCl (zqA false) (zac (vVar 1) a0))) (gN 0) yesM (vTup (zac (vVar 0) (zac (vOp zqO (vVar 1) (vVar 0)) a0))))
noncomputable def ziq:MS :=
 (sSeq (sAsg zqH (gN 1))
  (sSeq (sFor (vSeq (vVar 0)) (zbl 2 (zak (gN 2) (zak (gN 3) zbo))) zeU)
  (sRet ziJ)))
noncomputable def zim:List A→Mo A:=fnF 4 ziq
end M
namespace KS
open PySem PySem.W PyProof.Rows
def go {α:Type} (lt:Nat→Nat→Bool):KasT α→α
 | .ret a=>a
 | .ask i j k=>go lt (k (lt i j))
theorem zeF {α β:Type} (lt:Nat→Nat→Bool) (f:α→KasT β):∀ t:KasT α,go lt (t.bind f)=go lt (f (go lt t))
 | .ret _=>rfl
 | .ask i j k=>by
  show go lt ((k (lt i j)).bind f)=_
  rw [zeF lt f (k (lt i j))];rfl
section
variable (r:Nat→Int)
abbrev ltR:Nat→Nat→Bool:=fun i j=>decide (r i < r j)
def Ky (p:Array Nat) (i:Nat):Int:=r (p.getD i 0)
def Up (p:Array Nat) (k:Nat):Prop:=∀ i j,i ≤ j→j < k→Ky r p i ≤ Ky r p j
def Dn (p:Array Nat) (k:Nat):Prop:=∀ i j,i ≤ j→j < k→Ky r p j ≤ Ky r p i
variable {r}
theorem getD_eq {p q:Array Nat} {i j:Nat} (h:p[i]? = q[j]?):p.getD i 0=q.getD j 0:=by
 simp [Array.getD_eq_getD_getElem?,h]
theorem zlV {p q:Array Nat} {i j:Nat} (h:Ky r p i < Ky r q j):ltR r (p.getD i 0) (q.getD j 0)=true:=decide_eq_true h
theorem zpZ {p q:Array Nat} {i j:Nat} (h:¬ Ky r p i < Ky r q j):ltR r (p.getD i 0) (q.getD j 0)=false:=decide_eq_false h
theorem zo5 {p:Array Nat} {i j:Nat} (hj:j ≤ p.size) (k:Nat):Ky r (kas_rev p i j) k=if i ≤ k∧k < j then Ky r p (i + j - 1 - k) else Ky r p k:=by
 have h:=getElem?_mirror_all (i:=i) hj k
 unfold Ky kas_rev
 split
 ·rename_i c;rw [if_pos c] at h;rw [getD_eq h]
 ·rename_i c;rw [if_neg c] at h;rw [getD_eq h]
theorem ziU {p:Array Nat} {i j:Nat} (hj:j ≤ p.size) (e:∀ k,i ≤ k→k < j→Ky r p k=Ky r p (j - 1)) (k:Nat):Ky r (kas_rev p i j) k=Ky r p k:=by
 rw [zo5 hj]
 split
 ·rename_i c;rw [e _ (by omega) (by omega),e k c.1 c.2]
 ·rfl
theorem zeS (p:Array Nat) (i j:Nat):(kas_rev p i j).size=p.size:=mirror_size _ _ _ _
theorem zib (p:Array Nat) (i j:Nat):(kas_rev p i j).Perm p:=mirror_perm _ _ _ _
theorem zsA {p:Array Nat} {n:Nat} (h1:1 ≤ n) (h:Up r p n) (hn:Ky r p (n - 1) ≤ Ky r p n):Up r p (n + 1):=by
 intro i j hij hj
 by_cases e:j=n
 ·subst e
  by_cases e2:i=j
  ·subst e2;exact Int.le_refl _
  ·exact Int.le_trans (h i (j - 1) (by omega) (by omega)) hn
 ·exact h i j hij (by omega)
theorem zkS {p:Array Nat} {n:Nat} (h1:1 ≤ n) (h:Dn r p n) (hn:Ky r p n ≤ Ky r p (n - 1)):Dn r p (n + 1):=by
 intro i j hij hj
 by_cases e:j=n
 ·subst e
  by_cases e2:i=j
  ·subst e2;exact Int.le_refl _
  ·exact Int.le_trans hn (h i (j - 1) (by omega) (by omega))
 ·exact h i j hij (by omega)
theorem asc {p:Array Nat}:∀ (f n:Nat),1 ≤ n→Up r p n→∃ m,go (ltR r) (kas_asc p f n)=m∧n ≤ m∧m ≤ n + f∧Up r p m∧(m < n + f→Ky r p m < Ky r p (m - 1))
 | 0,n,_,h=>⟨n,rfl,Nat.le_refl _,Nat.le_refl _,h,fun z=>by omega⟩
 | f + 1,n,h1,h=>by
  by_cases c:Ky r p n < Ky r p (n - 1)
  ·refine ⟨n,?_,Nat.le_refl _,by omega,h,fun _=>c⟩
   have c':=zlV c
   simp only [kas_asc,go,c',if_true]
  ·obtain ⟨m,e,a,b,u,l⟩:=asc f (n + 1) (by omega) (zsA h1 h (by omega))
   refine ⟨m,?_,by omega,by omega,u,fun z=>l (by omega)⟩
   rw [← e]
   have c':=zpZ c
   simp only [kas_asc,go,c',Bool.false_eq_true,if_false]
theorem desc:∀ (f:Nat) (p:Array Nat) (n q:Nat),q + 1 ≤ n→n + f ≤ p.size→Dn r p n→(∀ k,n - (q + 1) ≤ k→k < n→Ky r p k=Ky r p (n - 1)) →
  ∃ p' m q',go (ltR r) (kas_desc f p n q)=(p',m,q')∧n ≤ m∧m ≤ n + f∧q' + 1 ≤ m∧p'.size=p.size∧p'.Perm p∧(∀ k,Ky r p' k=Ky r p k)∧Dn r p' m∧(∀ k,m - (q' + 1) ≤ k→k < m→Ky r p' k=Ky r p' (m - 1))
 | 0,p,n,q,hq,_,hd,he=>⟨p,n,q,rfl,Nat.le_refl _,Nat.le_refl _,hq,rfl, .refl _,fun _=>rfl,hd,he⟩
 | f + 1,p,n,q,hq,hz,hd,he=>by
  by_cases c:Ky r p n < Ky r p (n - 1)
  ·have c':=zlV c
   have hd1:Dn r p (n + 1):=zkS (by omega) hd (by omega)
   by_cases q0:q > 0
   ·have ek:∀ k,Ky r (kas_rev p (n - (q + 1)) n) k=Ky r p k:=ziU (by omega) he
    have hd2:Dn r (kas_rev p (n - (q + 1)) n) (n + 1):=fun i j a b=>by rw [ek,ek];exact hd1 i j a b
    obtain ⟨p',m,q',e,a1,a2,a3,a4,a5,a6,a7,a8⟩:=desc f (kas_rev p (n - (q + 1)) n) (n + 1) 0 (by omega) (by rw [zeS];omega) hd2 (fun k k1 k2=>by
     have:k=n + 1 - 1:=by omega
     rw [this])
    refine ⟨p',m,q',?_,by omega,by omega,a3,by rw [a4,zeS],a5.trans (zib _ _ _),fun k=>by rw [a6,ek],a7,a8⟩
    rw [← e]
    simp only [kas_desc,go,c',if_true,q0]
   ·obtain ⟨p',m,q',e,a1,a2,a3,a4,a5,a6,a7,a8⟩:=desc f p (n + 1) 0 (by omega) (by omega) hd1 (fun k k1 k2=>by
     have:k=n + 1 - 1:=by omega
     rw [this])
    refine ⟨p',m,q',?_,by omega,by omega,a3,a4,a5,a6,a7,a8⟩
    rw [← e]
    simp only [kas_desc,go,c',if_true,q0,if_false]
  ·have c':=zpZ c
   by_cases d:Ky r p (n - 1) < Ky r p n
   ·have d':=zlV d
    refine ⟨p,n,q,?_,Nat.le_refl _,by omega,hq,rfl, .refl _,fun _=>rfl,hd,he⟩
    simp only [kas_desc,go,c',d',Bool.false_eq_true,if_true,if_false]
   ·have d':=zpZ d
    have eq:Ky r p n=Ky r p (n - 1):=by omega
    obtain ⟨p',m,q',e,a1,a2,a3,a4,a5,a6,a7,a8⟩:=desc f p (n + 1) (q + 1) (by omega) (by omega) (zkS (by omega) hd (by omega)) (fun k k1 k2=>by
     rw [show n + 1 - 1=n by omega]
     by_cases z:k=n
     ·rw [z]
     ·rw [he k (by omega) (by omega),eq])
    refine ⟨p',m,q',?_,by omega,by omega,a3,a4,a5,a6,a7,a8⟩
    rw [← e]
    simp only [kas_desc,go,c',d',Bool.false_eq_true,if_false]
theorem zpt {p:Array Nat} {n:Nat} (hn:n ≤ p.size) (h:Dn r p n):Up r (kas_rev p 0 n) n:=by
 intro i j hij hj
 rw [zo5 hn,zo5 hn,if_pos ⟨by omega,by omega⟩,if_pos ⟨by omega,hj⟩]
 exact h _ _ (by omega) (by omega)
theorem tail3 {p:Array Nat} {n nrem:Nat} (h1:1 ≤ n) (hn:n ≤ nrem) (hz:nrem ≤ p.size) (h:Dn r p n):∃ m p',go (ltR r) (kas_tail3 n nrem p)=(m,p')∧1 ≤ m∧m ≤ nrem∧p'.size=p.size∧p'.Perm p∧Up r p' m:=by
 obtain ⟨m,e,a,b,u,_⟩:=asc (r:=r) (nrem - n) n h1 (zpt (by omega) h)
 refine ⟨m,kas_rev p 0 n,?_,by omega,by omega,zeS _ _ _,zib _ _ _,u⟩
 unfold kas_tail3
 rw [zeF,e];rfl
theorem descPart {p:Array Nat} {n nrem:Nat} (h1:1 ≤ n) (hn:n + 1 ≤ nrem) (hz:nrem ≤ p.size) (h:Dn r p (n + 1)):∃ m p',go (ltR r) (kas_descPart n nrem p)=(m,p')∧1 ≤ m∧m ≤ nrem∧p'.size=p.size∧p'.Perm p∧Up r p' m:=by
 obtain ⟨p1,m1,q1,e,a1,a2,a3,a4,a5,a6,a7,a8⟩:=desc (r:=r) (nrem - (n + 1)) p (n + 1) 0 (by omega) (by omega) h (fun k k1 k2=>by
  have:k=n + 1 - 1:=by omega
  rw [this])
 by_cases q0:q1 > 0
 ·have ek:∀ k,Ky r (kas_rev p1 (m1 - (q1 + 1)) m1) k=Ky r p1 k:=ziU (by omega) a8
  obtain ⟨m,p',e2,b1,b2,b3,b4,b5⟩:=tail3 (p:=kas_rev p1 (m1 - (q1 + 1)) m1) (n:=m1) (nrem:=nrem) (r:=r) (by omega) (by omega) (by rw [zeS];omega) (fun i j x y=>by rw [ek,ek];exact a7 i j x y)
  refine ⟨m,p',?_,b1,b2,by rw [b3,zeS,a4],b4.trans ((zib _ _ _).trans a5),b5⟩
  unfold kas_descPart
  rw [zeF,e]
  simp only [q0,if_true]
  exact e2
 ·obtain ⟨m,p',e2,b1,b2,b3,b4,b5⟩:=tail3 (p:=p1) (n:=m1) (nrem:=nrem) (r:=r) (by omega) (by omega) (by omega) a7
  refine ⟨m,p',?_,b1,b2,by rw [b3,a4],b4.trans a5,b5⟩
  unfold kas_descPart
  rw [zeF,e]
  simp only [q0,if_false]
  exact e2
theorem count {p:Array Nat} {nrem:Nat} (h1:1 ≤ nrem) (hz:nrem ≤ p.size):∃ m p',go (ltR r) (kas_count nrem p)=(m,p')∧1 ≤ m∧m ≤ nrem∧p'.size=p.size∧p'.Perm p∧Up r p' m:=by
 obtain ⟨n,e,a,b,u,l⟩:=asc (r:=r) (p:=p) (nrem - 1) 1 (Nat.le_refl _) (fun i j x y=>by
  have:i=j:=by omega
  rw [this];exact Int.le_refl _)
 unfold kas_count
 rw [zeF,e]
 by_cases c1:n=nrem
 ·subst c1
  refine ⟨n,p,by simp [go],a,Nat.le_refl _,rfl, .refl _,u⟩
 ·have c1':(n == nrem)=false:=by simpa using c1
  have lt:=l (by omega)
  simp only [c1',Bool.false_eq_true,if_false]
  by_cases c2:n > 1
  ·simp only [c2,if_true,go]
   by_cases c3:Ky r p 0 < Ky r p (n - 1)
   ·have c3':=zlV c3
    simp only [c3',if_true,go]
    exact ⟨n,p,rfl,a,by omega,rfl, .refl _,u⟩
   ·have c3':=zpZ c3
    simp only [c3',Bool.false_eq_true,if_false]
    have eqs:∀ k,k < n→Ky r p k=Ky r p (n - 1):=fun k hk=>by
     have x:=u 0 k (by omega) hk
     have y:=u k (n - 1) (by omega) (by omega)
     omega
    have ek:∀ k,Ky r (kas_rev p 0 n) k=Ky r p k:=ziU (by omega) fun k _ hk=>eqs k hk
    obtain ⟨m,p',e2,b1,b2,b3,b4,b5⟩:=descPart (r:=r) (p:=kas_rev p 0 n) (n:=n) (nrem:=nrem) (by omega) (by omega) (by rw [zeS];omega) (zkS (by omega) (fun i j x y=>by rw [ek,ek,eqs i (by omega),eqs j y];exact Int.le_refl _) (by rw [ek,ek];omega))
    exact ⟨m,p',e2,b1,b2,by rw [b3,zeS],b4.trans (zib _ _ _),b5⟩
  ·simp only [c2,if_false]
   have n1:n=1:=by omega
   subst n1
   exact descPart (Nat.le_refl _) (by omega) hz (zkS (Nat.le_refl _) (fun i j x y=>by
    have:i=j:=by omega
    rw [this];exact Int.le_refl _) (by omega))
theorem place {p:Array Nat} {k:Nat} (hu:Up r p k):∀ (f l t:Nat),l ≤ t→t ≤ k→t - l ≤ f→(∀ i,i < l→Ky r p i ≤ Ky r p k)→(∀ i,t ≤ i→i < k→Ky r p k < Ky r p i) →
  ∃ m,go (ltR r) (kas_place p k f l t)=m∧m ≤ k∧(∀ i,i < m→Ky r p i ≤ Ky r p k)∧(∀ i,m ≤ i→i < k→Ky r p k < Ky r p i)
 | 0,l,t,h1,h2,h3,h4,h5=>⟨l,rfl,by omega,h4,fun i a b=>h5 i (by omega) b⟩
 | f + 1,l,t,h1,h2,h3,h4,h5=>by
  by_cases c:l ≥ t
  ·exact ⟨l,by simp only [kas_place,c,if_true,go],by omega,h4,fun i a b=>h5 i (by omega) b⟩
  ·by_cases d:Ky r p k < Ky r p ((l + t) / 2)
   ·have d':=zlV d
    obtain ⟨m,e,a1,a2,a3⟩:=place hu f l ((l + t) / 2) (by omega) (by omega) (by omega) h4 (fun i a b=>by
     have:=hu ((l + t) / 2) i a b
     omega)
    refine ⟨m,?_,a1,a2,a3⟩
    rw [← e]
    simp only [kas_place,c,if_false,go,d',if_true]
   ·have d':=zpZ d
    obtain ⟨m,e,a1,a2,a3⟩:=place hu f ((l + t) / 2 + 1) t (by omega) h2 (by omega) (fun i a=>by
     have:=hu i ((l + t) / 2) (by omega) (by omega)
     omega) h5
    refine ⟨m,?_,a1,a2,a3⟩
    rw [← e]
    simp only [kas_place,c,if_false,go,d',Bool.false_eq_true]
theorem zr3 {p:Array Nat} {k d:Nat} (hs:k < p.size) (hd:d ≤ k) (i:Nat):Ky r (bubble p k d) i=if i=k - d then Ky r p k else if k - d < i∧i ≤ k then Ky r p (i - 1) else Ky r p i:=by
 have h:=getElem?_bubble hs d hd i
 by_cases c:i=k - d
 ·rw [if_pos c] at h ⊢
  exact congrArg r (getD_eq h)
 ·rw [if_neg c] at h ⊢
  by_cases c2:k - d < i∧i ≤ k
  ·rw [if_pos c2] at h ⊢
   exact congrArg r (getD_eq h)
  ·rw [if_neg c2] at h ⊢
   exact congrArg r (getD_eq h)
theorem bin:∀ (f:Nat) (p:Array Nat) (k:Nat),k + f ≤ p.size→Up r p k→∃ p',go (ltR r) (kas_bin f p k)=p'∧p'.size=p.size∧p'.Perm p∧Up r p' (k + f)
 | 0,p,k,_,h=>⟨p,rfl,rfl, .refl _,h⟩
 | f + 1,p,k,hz,h=>by
  obtain ⟨m,e,a1,a2,a3⟩:=place h k 0 k (by omega) (Nat.le_refl _) (by omega) (fun i z=>by omega) (fun i a b=>by omega)
  have hu:Up r (bubble p k (k - m)) (k + 1):=by
   intro i j hij hj
   rw [zr3 (by omega) (by omega),zr3 (by omega) (by omega)]
   have e1:k - (k - m)=m:=by omega
   rw [e1]
   by_cases ci:i=m
   ·rw [if_pos ci]
    by_cases cj:j=m
    ·rw [if_pos cj];exact Int.le_refl _
    ·rw [if_neg cj,if_pos ⟨by omega,by omega⟩]
     exact Int.le_of_lt (a3 (j - 1) (by omega) (by omega))
   ·rw [if_neg ci]
    by_cases ci2:m < i∧i ≤ k
    ·rw [if_pos ci2,if_neg (by omega),if_pos ⟨by omega,by omega⟩]
     exact h _ _ (by omega) (by omega)
    ·rw [if_neg ci2]
     by_cases cj:j=m
     ·rw [if_pos cj];exact a2 i (by omega)
     ·rw [if_neg cj]
      by_cases cj2:m < j∧j ≤ k
      ·rw [if_pos cj2];exact h _ _ (by omega) (by omega)
      ·rw [if_neg cj2];exact h _ _ hij (by omega)
  obtain ⟨p',e2,b1,b2,b3⟩:=bin f (bubble p k (k - m)) (k + 1) (by rw [bubble_size];omega) hu
  refine ⟨p',?_,by rw [b1,bubble_size],b2.trans (bubble_perm _ _ _),by rw [show k + (f + 1)=k + 1 + f by omega];exact b3⟩
  rw [← e2]
  simp only [kas_bin,zeF,e]
theorem sorts {n:Nat} (h1:1 ≤ n):∃ p,go (ltR r) (kas_sort n)=p∧p.size=n∧p.toList.Perm (List.range n)∧Up r p n:=by
 obtain ⟨m,p,e,a1,a2,a3,a4,a5⟩:=count (r:=r) (p:=List.toArray (List.range n)) (nrem:=n) h1 (by simp)
 have sz:(List.toArray (List.range n)).size=n:=by simp
 rw [sz] at a3
 have pr:p.toList.Perm (List.range n):=by have:=Array.perm_iff_toList_perm.mp a4;simpa using this
 unfold kas_sort
 rw [zeF,e]
 by_cases c:m < n
 ·simp only [c,if_true]
  obtain ⟨p',e2,b1,b2,b3⟩:=bin (r:=r) (n - max m 1) p (max m 1) (by omega) (by rw [show max m 1=m by omega];exact a5)
  refine ⟨p',e2,by omega,(Array.perm_iff_toList_perm.mp b2).trans pr,?_⟩
  rw [show max m 1 + (n - max m 1)=n by omega] at b3
  exact b3
 ·simp only [c,if_false]
  have:m=n:=by omega
  subst this
  exact ⟨p,rfl,a3,pr,a5⟩
end
end KS
namespace KS
open PySem PySem.W PyProof.Rows
def reach {α:Type} (lt:Nat→Nat→Bool) (N:Nat):KasT α→Prop
 | .ret _=>True
 | .ask i j k=>i < N∧j < N∧reach lt N (k (lt i j))
theorem zbZ {α β:Type} {lt:Nat→Nat→Bool} {N:Nat} {f:α→KasT β}:∀ {t:KasT α},reach lt N t→reach lt N (f (go lt t))→reach lt N (t.bind f)
 | .ret _,_,h=>h
 | .ask _ _ _,h1,h2=>⟨h1.1,h1.2.1,zbZ h1.2.2 h2⟩
theorem znJ {α:Type} {cmp:Nat→Nat→(Bool→Shared→Prop)→Shared→Prop} {lt:Nat→Nat→Bool} {N:Nat} {s:Shared} (hc:∀ i j C,i < N→j < N→C (lt i j) s→cmp i j C s) {Q:α→Shared→Prop}:∀ (t:KasT α),reach lt N t→Q (go lt t) s→t.kasWp cmp Q s
 | .ret _,_,h=>h
 | .ask i j k,hr,h=>hc i j _ hr.1 hr.2.1 (znJ hc (k (lt i j)) hr.2.2 h)
def Bd (N:Nat) (p:Array Nat):Prop:=0 < N∧∀ x ∈ p,x < N
section
variable {lt:Nat→Nat→Bool} {N:Nat}
theorem Bd.get {p:Array Nat} (h:Bd N p) (i:Nat):p.getD i 0 < N:=by
 rw [Array.getD_eq_getD_getElem?]
 cases e:p[i]? with
 | none=>exact h.1
 | some x=>exact h.2 x (Array.mem_of_getElem? e)
theorem Bd.perm {p q:Array Nat} (h:Bd N p) (e:q.Perm p):Bd N q:=⟨h.1,fun x hx=>h.2 x (e.mem_iff.mp hx)⟩
theorem Bd.rev {p:Array Nat} (h:Bd N p) (i j:Nat):Bd N (kas_rev p i j):=h.perm (mirror_perm _ _ _ _)
theorem zsr {p:Array Nat} (h:Bd N p):∀ f n,reach lt N (kas_asc p f n)
 | 0,_=>trivial
 | f + 1,n=>by
  refine ⟨h.get _,h.get _,?_⟩
  dsimp only
  split
  ·trivial
  ·exact zsr h f (n + 1)
theorem znr:∀ (f:Nat) (p:Array Nat) (n q:Nat),Bd N p→reach lt N (kas_desc f p n q)∧Bd N (go lt (kas_desc f p n q)).1
 | 0,p,_,_,h=>⟨trivial,h⟩
 | f + 1,p,n,q,h=>by
  have g:go lt (kas_desc (f + 1) p n q)=go lt (if lt (p.getD n 0) (p.getD (n - 1) 0)=true then (if q > 0 then kas_desc f (kas_rev p (n - (q + 1)) n) (n + 1) 0 else kas_desc f p (n + 1) 0) else .ask (p.getD (n - 1) 0) (p.getD n 0) fun d=>if d=true then .ret (p,n,q) else kas_desc f p (n + 1) (q + 1)):=rfl
  rw [g]
  show (_∧_∧reach lt N (if lt (p.getD n 0) (p.getD (n - 1) 0)=true then (if q > 0 then kas_desc f (kas_rev p (n - (q + 1)) n) (n + 1) 0 else kas_desc f p (n + 1) 0) else .ask (p.getD (n - 1) 0) (p.getD n 0) fun d=>if d=true then .ret (p,n,q) else kas_desc f p (n + 1) (q + 1)))∧_
  by_cases c:lt (p.getD n 0) (p.getD (n - 1) 0)=true
  ·rw [if_pos c]
   by_cases q0:q > 0
   ·rw [if_pos q0]
    have ih:=znr f (kas_rev p (n - (q + 1)) n) (n + 1) 0 (h.rev _ _)
    exact ⟨⟨h.get _,h.get _,ih.1⟩,ih.2⟩
   ·rw [if_neg q0]
    have ih:=znr f p (n + 1) 0 h
    exact ⟨⟨h.get _,h.get _,ih.1⟩,ih.2⟩
  ·rw [if_neg c]
   have g2:go lt (.ask (p.getD (n - 1) 0) (p.getD n 0) fun d=>if d=true then .ret (p,n,q) else kas_desc f p (n + 1) (q + 1))=go lt (if lt (p.getD (n - 1) 0) (p.getD n 0)=true then KasT.ret (p,n,q) else kas_desc f p (n + 1) (q + 1)):=rfl
   rw [g2]
   show (_∧_∧_∧_∧reach lt N (if lt (p.getD (n - 1) 0) (p.getD n 0)=true then KasT.ret (p,n,q) else kas_desc f p (n + 1) (q + 1)))∧_
   by_cases d:lt (p.getD (n - 1) 0) (p.getD n 0)=true
   ·rw [if_pos d]
    exact ⟨⟨h.get _,h.get _,h.get _,h.get _,trivial⟩,h⟩
   ·rw [if_neg d]
    have ih:=znr f p (n + 1) (q + 1) h
    exact ⟨⟨h.get _,h.get _,h.get _,h.get _,ih.1⟩,ih.2⟩
theorem zpY {p:Array Nat} (h:Bd N p) (n nrem:Nat):reach lt N (kas_tail3 n nrem p)∧Bd N (go lt (kas_tail3 n nrem p)).2:=by
 unfold kas_tail3
 refine ⟨zbZ (zsr (h.rev _ _) _ _) trivial,?_⟩
 rw [zeF]
 exact h.rev _ _
theorem zjL {p:Array Nat} (h:Bd N p) (n nrem:Nat):reach lt N (kas_descPart n nrem p)∧Bd N (go lt (kas_descPart n nrem p)).2:=by
 obtain ⟨a,b⟩:=znr (lt:=lt) (nrem - (n + 1)) p (n + 1) 0 h
 unfold kas_descPart
 rw [zeF]
 by_cases c:(go lt (kas_desc (nrem - (n + 1)) p (n + 1) 0)).2.2 > 0
 ·have t:=zpY (lt:=lt) (b.rev ((go lt (kas_desc (nrem - (n + 1)) p (n + 1) 0)).2.1 - ((go lt (kas_desc (nrem - (n + 1)) p (n + 1) 0)).2.2 + 1)) (go lt (kas_desc (nrem - (n + 1)) p (n + 1) 0)).2.1) (go lt (kas_desc (nrem - (n + 1)) p (n + 1) 0)).2.1 nrem
  refine ⟨zbZ a ?_,?_⟩
  ·rw [if_pos c];exact t.1
  ·rw [if_pos c];exact t.2
 ·have t:=zpY (lt:=lt) b (go lt (kas_desc (nrem - (n + 1)) p (n + 1) 0)).2.1 nrem
  refine ⟨zbZ a ?_,?_⟩
  ·rw [if_neg c];exact t.1
  ·rw [if_neg c];exact t.2
theorem zsN {p:Array Nat} (h:Bd N p) (nrem:Nat):reach lt N (kas_count nrem p)∧Bd N (go lt (kas_count nrem p)).2:=by
 unfold kas_count
 rw [zeF]
 have a:=zsr (lt:=lt) h (nrem - 1) 1
 generalize hn:go lt (kas_asc p (nrem - 1) 1)=n
 by_cases c1:(n == nrem)=true
 ·rw [if_pos c1]
  refine ⟨zbZ a ?_,h⟩
  rw [hn,if_pos c1];trivial
 ·rw [if_neg c1]
  by_cases c2:n > 1
  ·rw [if_pos c2]
   have g:go lt (.ask (p.getD 0 0) (p.getD (n - 1) 0) fun c=>if c=true then .ret (n,p) else kas_descPart n nrem (kas_rev p 0 n))=go lt (if lt (p.getD 0 0) (p.getD (n - 1) 0)=true then .ret (n,p) else kas_descPart n nrem (kas_rev p 0 n)):=rfl
   rw [g]
   by_cases c3:lt (p.getD 0 0) (p.getD (n - 1) 0)=true
   ·rw [if_pos c3]
    refine ⟨zbZ a ?_,h⟩
    rw [hn,if_neg c1,if_pos c2]
    refine ⟨h.get _,h.get _,?_⟩
    dsimp only;rw [if_pos c3];trivial
   ·rw [if_neg c3]
    have t:=zjL (lt:=lt) (h.rev 0 n) n nrem
    refine ⟨zbZ a ?_,t.2⟩
    rw [hn,if_neg c1,if_pos c2]
    refine ⟨h.get _,h.get _,?_⟩
    dsimp only;rw [if_neg c3];exact t.1
  ·rw [if_neg c2]
   have t:=zjL (lt:=lt) h n nrem
   refine ⟨zbZ a ?_,t.2⟩
   rw [hn,if_neg c1,if_neg c2]
   exact t.1
theorem zm8 {p:Array Nat} (h:Bd N p) (k:Nat):∀ f l t,reach lt N (kas_place p k f l t)
 | 0,_,_=>trivial
 | f + 1,l,t=>by
  unfold kas_place
  split
  ·trivial
  ·refine ⟨h.get _,h.get _,?_⟩
   dsimp only
   split
   ·exact zm8 h k f _ _
   ·exact zm8 h k f _ _
theorem zup:∀ (f:Nat) (p:Array Nat) (k:Nat),Bd N p→reach lt N (kas_bin f p k)
 | 0,_,_,_=>trivial
 | f + 1,p,k,h=>zbZ (zm8 h k _ _ _) (zup f _ _ (h.perm (bubble_perm _ _ _)))
theorem zse {n:Nat} (h:0 < n):reach lt n (kas_sort n):=by
 have b:Bd n (List.toArray (List.range n)):=⟨h,fun x hx=>by simpa using hx⟩
 obtain ⟨a1,a2⟩:=zsN (lt:=lt) b n
 unfold kas_sort
 refine zbZ a1 ?_
 split
 ·exact zup _ _ _ a2
 ·trivial
end
end KS
namespace KS
open PySem PySem.W PyProof.Rows
def lexB:List Int→List Int→Bool
 | [],[]=>false
 | [],_ :: _=>true
 | _ :: _,[]=>false
 | a :: as,b :: bs=>if a=b then lexB as bs else decide (a < b)
theorem zkV:∀ a,lexB a a=false
 | []=>rfl
 | a :: as=>by simp [lexB,zkV as]
theorem zeG:∀ {a b c:List Int},lexB a b=true→lexB b c=true→lexB a c=true
 | [],[],_,h,_=>by simp [lexB] at h
 | [],_ :: _,[],_,h=>by simp [lexB] at h
 | [],_ :: _,_ :: _,_,_=>rfl
 | _ :: _,[],_,h,_=>by simp [lexB] at h
 | _ :: _,_ :: _,[],_,h=>by simp [lexB] at h
 | a :: as,b :: bs,c :: cs,h1,h2=>by
  simp only [lexB] at h1 h2 ⊢
  by_cases e1:a=b
  ·subst e1
   by_cases e2:a=c
   ·subst e2
    simp only [if_true] at h1 h2 ⊢
    exact zeG h1 h2
   ·simp only [if_true,e2,if_false] at h1 h2 ⊢
    exact h2
  ·by_cases e2:b=c
   ·subst e2
    simp only [e1,if_false] at h1 ⊢
    exact h1
   ·simp only [e1,e2,if_false,decide_eq_true_eq] at h1 h2
    have e3:¬ a=c:=by omega
    simp only [e3,if_false,decide_eq_true_eq]
    omega
theorem zh8:∀ {a b:List Int},lexB a b=false→lexB b a=false→a=b
 | [],[],_,_=>rfl
 | [],_ :: _,h,_=>by simp [lexB] at h
 | _ :: _,[],_,h=>by simp [lexB] at h
 | a :: as,b :: bs,h1,h2=>by
  simp only [lexB] at h1 h2
  by_cases e:a=b
  ·subst e
   simp only [if_true] at h1 h2
   rw [zh8 h1 h2]
  ·have e':¬ b=a:=fun z=>e z.symm
   simp only [e,e',if_false,decide_eq_false_iff_not] at h1 h2
   omega
def zpb (ts:List (List Int)) (t:List Int):Int:=((ts.filter fun x=>lexB x t).length:Int)
theorem zeQ {α:Type} {p q:α→Bool} (h:∀ x,p x=true→q x=true):∀ l:List α,(l.filter p).length ≤ (l.filter q).length
 | []=>Nat.le_refl _
 | x :: l=>by
  have ih:=zeQ h l
  by_cases hp:p x=true
  ·simp [hp,h x hp,ih]
  ·by_cases hq:q x=true
   ·simp [hp,hq];omega
   ·simp [hp,hq,ih]
theorem zgZ {α:Type} {p q:α→Bool} (h:∀ x,p x=true→q x=true):∀ (l:List α) (y:α),y ∈ l→p y=false→q y=true→(l.filter p).length < (l.filter q).length
 | [],_,hy,_,_=>by cases hy
 | x :: l,y,hy,hp,hq=>by
  have le:=zeQ h l
  rcases List.mem_cons.mp hy with e | e
  ·subst e
   simp [hp,hq];omega
  ·have ih:=zgZ h l y e hp hq
   by_cases hx:p x=true
   ·simp [hx,h x hx,ih]
   ·by_cases hx2:q x=true
    ·simp [hx,hx2];omega
    ·simp [hx,hx2,ih]
theorem zoW {ts:List (List Int)} {a b:List Int} (ha:a ∈ ts):zpb ts a < zpb ts b↔lexB a b=true:=by
 unfold zpb
 constructor
 ·intro h
  by_cases c:lexB a b=true
  ·exact c
  ·exfalso
   have c':lexB a b=false:=by simpa using c
   have:(ts.filter fun x=>lexB x b).length ≤ (ts.filter fun x=>lexB x a).length:=zeQ (fun x hx=>by
    by_cases d:lexB b a=true
    ·exact zeG hx d
    ·have e:=zh8 c' (by simpa using d)
     rw [e];exact hx) ts
   omega
 ·intro h
  have:=zgZ (p:=fun x=>lexB x a) (q:=fun x=>lexB x b) (fun x hx=>zeG hx h) ts a ha (zkV a) h
  omega
section
variable {prog:Program} {w:World} {A:Around} {E:Value→Shared→Prop} {s:Shared}
theorem zr2 {Q:Bool→Shared→Prop}:∀ {xs ys:List Value} {ns ms:List Int} (i:Nat) (fin:Bool),IntsAre xs ns→IntsAre ys ms→fin=decide (ns.length < ms.length)→Q (lexB ns ms) s→KatLex prog w A true fin Q (xs.zip ys) i s
 | [],[],_,_,i,fin, .nil, .nil,hf,h=>by subst hf;exact kat_nil (by simpa [lexB] using h)
 | [],_ :: _,_,_,i,fin, .nil, .cons m u k,hf,h=>by subst hf;exact kat_nil (by simpa [lexB] using h)
 | _ :: _,[],_,_,i,fin, .cons n t h1, .nil,hf,h=>by subst hf;exact kat_nil (by simpa [lexB] using h)
 | _ :: _,_ :: _,_,_,i,fin, .cons n t h1, .cons m u h2,hf,h=>by
  rw [List.zip_cons_cons]
  refine kat_cons (wpAny_eqBool_int ?_)
  by_cases e:n=m
  ·subst e
   rw [show (n == n)=true by simp]
   exact kat_yes (zr2 (i + 1) fin h1 h2 (by rw [hf];simp) (by simpa [lexB] using h))
  ·rw [show (n == m)=false by simpa using e]
   refine kat_no ?_
   have h':Q (decide (n < m)) s:=by simpa [lexB,e] using h
   by_cases hi:i=0
   ·subst hi
    exact oneLt_int h'
   ·rw [show (true && i == 0)=false by simpa using hi]
    exact kat_one _ _ (lt_int h')
end
end KS
namespace KS
open PySem PySem.W PyProof.Rows
def TupAt (h:Heap) (v:Value) (ns:List Int):Prop:=∃ a o xs n,v = .ref a∧h.get? a=some o∧o.cls = .type "tuple"∧o.data = .seq xs n∧IntsAre xs.toList ns
def zdc (h:Heap):List Value→List (List Int)→Prop
 | [],[]=>True
 | v :: vs,t :: ts=>TupAt h v t∧zdc h vs ts
 | _,_=>False
theorem zdc.len {h:Heap}:∀ {vs:List Value} {ts:List (List Int)},zdc h vs ts→vs.length=ts.length
 | [],[],_=>rfl
 | _ :: _,_ :: _,t=>by simp [zdc.len t.2]
 | [],_ :: _,t=>t.elim
 | _ :: _,[],t=>t.elim
theorem zdc.get {h:Heap}:∀ {vs:List Value} {ts:List (List Int)},zdc h vs ts→∀ i,i < ts.length→TupAt h (vs.getD i .none) (ts.getD i [])
 | [],[],_,i,hi=>by simp at hi
 | _ :: _,_ :: _,t,0,_=>t.1
 | _ :: _,_ :: _,t,i + 1,hi=>by simpa using zdc.get t.2 i (by simpa using hi)
 | [],_ :: _,t,_,_=>t.elim
 | _ :: _,[],t,_,_=>t.elim
theorem zdc.keeps {h h':Heap} (k:∀ b o,h.get? b=some o→o.cls = .type "tuple"→h'.get? b=some o):∀ {vs:List Value} {ts:List (List Int)},zdc h vs ts→zdc h' vs ts
 | [],[],_=>trivial
 | _ :: _,_ :: _,⟨⟨a,o,xs,n,h1,h2,h3,h4⟩,t⟩=>⟨⟨a,o,xs,n,h1,k _ _ h2 h3,h3,h4⟩,zdc.keeps k t⟩
 | [],_ :: _,t=>t.elim
 | _ :: _,[],t=>t.elim
theorem zdc.kat {h:Heap}:∀ {vs:List Value} {ts:List (List Int)},zdc h vs ts→(∀ t ∈ ts,t ≠ [])→∃ fs ns,KatTups h vs fs∧IntsAre fs ns∧fs.length=vs.length
 | [],[],_,_=>⟨[],[], .nil, .nil,rfl⟩
 | _ :: _,t :: ts,⟨⟨a,o,xs,n,h1,h2,h3,h4,h5⟩,r⟩,hne=>by
  obtain ⟨fs,ns,k1,k2,k3⟩:=zdc.kat r fun t ht=>hne t (List.mem_cons_of_mem _ ht)
  subst h1
  have hn:=hne t (List.mem_cons_self ..)
  obtain ⟨l⟩:=xs
  cases h5 with
  | nil=>exact absurd rfl hn
  | cons m u hh =>
   exact ⟨.int m u :: fs,m :: ns, .cons h2 h3 h4 rfl k1, .cons m u k2,by simp [k3]⟩
 | [],_ :: _,t,_=>t.elim
 | _ :: _,[],t,_=>t.elim
section
variable {prog:Program} {w:World} {A:Around} {E:Value→Shared→Prop} {s:Shared}
theorem ztw {vs:List Value} {ts:List (List Int)} (T:zdc s.heap vs ts) {i j:Nat} (hi:i < ts.length) (hj:j < ts.length) {C:Bool→Shared→Prop} (h:C (lexB (ts.getD i []) (ts.getD j [])) s):kas_ask prog w A (tuples' true) vs i j C s:=by
 obtain ⟨a,o,xs,n,e1,h2,h3,h4,h5⟩:=T.get i hi
 obtain ⟨b,o',ys,n',e1',h2',h3',h4',h5'⟩:=T.get j hj
 unfold kas_ask
 rw [e1,e1']
 have l1:=h5.length
 have l2:=h5'.length
 refine kat_lt h2 h4 h2' h4' (zr2 0 _ h5 h5' ?_ h)
 rw [← Array.length_toList,← Array.length_toList,l1,l2]
theorem zru {vs:List Value} {ts:List (List Int)} (T:zdc s.heap vs ts) (hne:∀ t ∈ ts,t ≠ []) (h2:2 ≤ vs.length) {Q:SortKind→Shared→Prop} (h:Q (tuples' true) s):wpAny (model prog w) A (keyKind' vs.toArray) Q E s:=by
 obtain ⟨fs,ns,k1,k2,k3⟩:=T.kat hne
 refine kat_kind (T := .type "int") k1 (by omega) (fun v hv=>?_) (by decide) ?_
 ·obtain ⟨n,t,rfl⟩:=k2.all v hv
  exact Looks.of_pure rfl
 ·have e:(Value.type "int" != Value.type "tuple")=true:=by decide
  rw [e];exact h
def Srt (ts:List (List Int)) (p:List Nat):Prop:=p.Perm (List.range ts.length)∧p.Pairwise fun i j=>lexB (ts.getD j []) (ts.getD i [])=false
theorem go_congr {α:Type} {lt lt':Nat→Nat→Bool} {N:Nat} (h:∀ i j,i < N→j < N→lt i j=lt' i j):∀ t:KasT α,reach lt N t→go lt t=go lt' t
 | .ret _,_=>rfl
 | .ask i j k,hr=>by
  show go lt (k (lt i j))=go lt' (k (lt' i j))
  rw [← h i j hr.1 hr.2.1]
  exact go_congr h _ hr.2.2
abbrev ltT (ts:List (List Int)):Nat→Nat→Bool:=fun i j=>lexB (ts.getD i []) (ts.getD j [])
theorem getD_mem {ts:List (List Int)} {i:Nat} (h:i < ts.length):ts.getD i [] ∈ ts:=by
 rw [List.getD_eq_getElem?_getD,List.getElem?_eq_getElem h]
 exact List.getElem_mem h
theorem zvd {ts:List (List Int)} (h:1 ≤ ts.length):Srt ts (go (ltT ts) (kas_sort ts.length)).toList∧(go (ltT ts) (kas_sort ts.length)).size=ts.length:=by
 have e:go (ltT ts) (kas_sort ts.length)=go (ltR fun i=>zpb ts (ts.getD i [])) (kas_sort ts.length):=go_congr (N:=ts.length) (fun i j hi hj=>by
  have q:=zoW (ts:=ts) (b:=ts.getD j []) (getD_mem hi)
  show lexB _ _=decide _
  by_cases c:lexB (ts.getD i []) (ts.getD j [])=true
  ·rw [c];exact (decide_eq_true (q.mpr c)).symm
  ·have c':lexB (ts.getD i []) (ts.getD j [])=false:=by simpa using c
   rw [c'];exact (decide_eq_false fun z=>c (q.mp z)).symm) _ (zse (by omega))
 obtain ⟨p,e2,a1,a2,a3⟩:=sorts (r:=fun i=>zpb ts (ts.getD i [])) h
 rw [e,e2]
 refine ⟨⟨a2,?_⟩,a1⟩
 rw [List.pairwise_iff_getElem]
 intro i j hi hj hij
 rw [Array.length_toList] at hi hj
 have u:=a3 i j (by omega) (by omega)
 unfold Ky at u
 have gi:p.getD i 0=p.toList[i]:=by simp [Array.getD_eq_getD_getElem?,hi]
 have gj:p.getD j 0=p.toList[j]:=by simp [Array.getD_eq_getD_getElem?,hj]
 rw [gi,gj] at u
 dsimp only at u
 have mj:p.toList[j] < ts.length:=by
  have:=a2.mem_iff.mp (List.getElem_mem (by rw [Array.length_toList];exact hj))
  simpa using this
 have q:=zoW (ts:=ts) (b:=ts.getD p.toList[i] []) (getD_mem mj)
 by_cases c:lexB (ts.getD p.toList[j] []) (ts.getD p.toList[i] [])=true
 ·have:=q.mpr c;omega
 ·simpa using c
theorem zj1 {a:Addr} {vs:List Value} {ts:List (List Int)} {n:Nat} {P:PySem.Fin→Shared→Prop} (ho:s.heap.get? a=some (seqObj "list" vs.toArray n)) (T:zdc s.heap vs ts) (hne:∀ t ∈ ts,t ≠ []) (h64:vs.length < 64)
  (h:∀ p:List Nat,Srt ts p→P (.done (.ret .none)) { s with heap:=sortedHeap s.heap a vs (List.toArray (p.map fun i=>vs.getD i Value.none)) }) :
  wpAny (model prog w) A (Builtin.«list.sort» ⟨[.ref a],[]⟩) P E s:=by
 rw [list_sort_plain]
 have hlen:=T.len
 have ha:a < s.heap.objs.size:=Heap.lt_size ho
 refine wpAny_bind (listItems_at ho rfl ?_)
 refine wpAny_bind (listUpdate_at ho rfl ?_ (by rw [List.size_toArray,sizeLine_eq];omega) (Nat.zero_le _))
 obtain ⟨e1,ho1⟩ : ∃ e1,(s.heap.update a (Obj.mapSeq fun _=>(#[] : Array Value))).get? a=some (seqObj "list" #[] e1):=⟨_,get?_update_seq ho (fun _=>#[])⟩
 refine wpAny_bind (seqEpoch_at ho1 rfl ?_)
 refine wpAny_bind (wpAny_newTuple ?_ (by show vs.length ≤ _;rw [sizeLine_eq];omega))
 refine wpAny_bind (wpAny_newList ?_ (Nat.zero_le _))
 refine wpAny_holding ?_
 have old:∀ b o,s.heap.get? b=some o→o.cls = .type "tuple"→(((s.heap.update a (Obj.mapSeq fun _=>(#[] : Array Value))).push (seqObj "tuple" vs.toArray 0)).push (seqObj "list" #[] 0)).get? b=some o:=fun b o hb hc=>by
  have hba:b ≠ a:=fun z=>by subst z;rw [ho] at hb;cases hb;have hc:Value.type "list" = Value.type "tuple":=hc;exact absurd hc (by decide)
  have hlt:b < s.heap.objs.size:=Heap.lt_size hb
  rw [Heap.get?_push_ne _ _ _ (by rw [size_push',Heap.size_update];exact Nat.ne_of_lt (Nat.lt_succ_of_lt hlt)),Heap.get?_push_ne _ _ _ (by rw [Heap.size_update];exact Nat.ne_of_lt hlt),Heap.get?_update_ne _ _ _ _ hba]
  exact hb
 have ho6:(((s.heap.update a (Obj.mapSeq fun _=>(#[] : Array Value))).push (seqObj "tuple" vs.toArray 0)).push (seqObj "list" #[] 0)).get? a=some (seqObj "list" #[] e1):=by
  rw [Heap.get?_push_ne _ _ _ (by rw [size_push',Heap.size_update];exact Nat.ne_of_lt (Nat.lt_succ_of_lt ha)),Heap.get?_push_ne _ _ _ (by rw [Heap.size_update];exact Nat.ne_of_lt ha)]
  exact ho1
 show wpAny (model prog w) A _ P E { s with heap:=((s.heap.update a (Obj.mapSeq fun _=>(#[] : Array Value))).push (seqObj "tuple" vs.toArray 0)).push (seqObj "list" #[] 0) }
 dsimp only
 by_cases h2:vs.toArray.size < 2
 ·have h2':vs.length < 2:=by simpa using h2
  rw [if_pos h2,if_pos h2]
  refine wpAny_bind (wpAny_pure ?_)
  rw [StateT.run_pure]
  refine wpAny_bind (wpAny_pure ?_)
  dsimp only
  have eo:(arrOf (SortSt.mk' general' (vs.toArray.zip vs.toArray) #[] 7 none)).map (·.2)=List.toArray ((List.range vs.length).map fun i=>vs.getD i Value.none):=by
   show (vs.toArray.zip vs.toArray).map (·.2)=_
   match vs,h2' with
   | [],_=>simp
   | [v],_=>simp [List.range_succ]
  rw [eo]
  refine wpAny_bind (seqEpoch_at ho6 rfl ?_)
  refine wpAny_bind (listUpdate_at ho6 rfl ?_ (Nat.zero_le _) (by rw [List.size_toArray,List.length_map,List.length_range,sizeLine_eq];omega))
  simp only [bne_self_eq_false,Bool.false_eq_true,if_false]
  refine wpAny_pure (h (List.range vs.length) ⟨by rw [hlen],?_⟩)
  match vs,h2' with
  | [],_=>exact .nil
  | [v],_=>exact List.pairwise_singleton _ _
 ·have h2':2 ≤ vs.length:=by simpa using h2
  rw [if_neg h2,if_neg h2]
  have T':=T.keeps old
  obtain ⟨sg,sz⟩:=zvd (ts:=ts) (by omega)
  refine wpAny_bind (zru T' hne h2' ?_)
  refine wpAny_bind (wpAny_mono (kat_run (Q:=fun st' s'=>∃ p:Array Nat,p.size=vs.length∧arrOf st'=p.map (kas_item (vs.toArray.zip vs.toArray))∧failedOf st'=none∧s' = { s with heap:=((s.heap.update a (Obj.mapSeq fun _=>(#[] : Array Value))).push (seqObj "tuple" vs.toArray 0)).push (seqObj "list" #[] 0) }∧p=go (ltT ts) (kas_sort ts.length))
   rfl h2' h64 (fun p' st' s' a1 a2 a3 a4=>⟨p',a1,a2,a3,a4⟩) ?_) ?_ fun _ _ e=>e)
  ·rw [hlen]
   exact znJ (lt:=ltT ts) (N:=ts.length) (fun i j C hi hj hC=>ztw T' hi hj hC) _ (zse (by omega)) ⟨rfl,rfl⟩
  ·rintro ⟨⟨⟩,st'⟩ s' ⟨p,hp,har,hf,rfl,rfl⟩
   dsimp only
   have hout:=kat_snds rfl har
   rw [hout]
   refine wpAny_bind (seqEpoch_at ho6 rfl ?_)
   refine wpAny_bind (listUpdate_at ho6 rfl ?_ (Nat.zero_le _) (by rw [List.size_toArray,List.length_map,Array.length_toList,sz,sizeLine_eq];omega))
   rw [hf]
   simp only [bne_self_eq_false,Bool.false_eq_true,if_false]
   exact wpAny_pure (h _ sg)
theorem zn4 {l:Addr} {vs:List Value} {ts:List (List Int)} {Q:Value→Shared→Prop} (hl:s.heap.IsList l vs.toArray) (T:zdc s.heap vs ts) (hne:∀ t ∈ ts,t ≠ []) (h64:vs.length < 64)
  (h:∀ p:List Nat,Srt ts p→Q (.ref (s.heap.objs.size + 1)) { s with heap:=sortedAll s.heap vs (List.toArray (p.map fun i=>vs.getD i Value.none)) }) :
  wpAny (model prog w) A (call (.builtin "sorted") [.ref l]) Q E s:=by
 refine Calls.call_function_entry kind_sorted plain_sorted entry_sorted (args_sorted1 _) ?_
 unfold Builtin.«sorted»
 refine wpAny_bind (m:=checkCount "sorted" 1 1 _) (wpAny_pure ?_)
 refine wpAny_bind (collect_list hl ?_ (by rw [sizeLine_eq];omega))
 refine wpAny_bind (wpAny_newList ?_ (by rw [sizeLine_eq];omega))
 have hsz:((s.heap.push (seqObj "list" #[] 0)).update s.heap.objs.size (Obj.mapSeq (· ++ vs.toArray))).objs.size=s.heap.objs.size + 1:=by
  rw [Heap.size_update,size_push']
 have hoL:(((s.heap.push (seqObj "list" #[] 0)).update s.heap.objs.size (Obj.mapSeq (· ++ vs.toArray))).push (seqObj "list" vs.toArray 0)).get? (s.heap.objs.size + 1)=some (seqObj "list" vs.toArray 0):=by
  rw [← hsz];exact Heap.get?_push_size _ rfl
 have keep:∀ b o,s.heap.get? b=some o→(((s.heap.push (seqObj "list" #[] 0)).update s.heap.objs.size (Obj.mapSeq (· ++ vs.toArray))).push (seqObj "list" vs.toArray 0)).get? b=some o:=fun b o q=>by
  have hlt:b < s.heap.objs.size:=Heap.lt_size q
  rw [Heap.get?_push_ne _ _ _ (by rw [hsz];exact Nat.ne_of_lt (Nat.lt_succ_of_lt hlt)),Heap.get?_update_ne _ _ _ _ (Nat.ne_of_lt hlt),Heap.get?_push_ne _ _ _ (Nat.ne_of_lt hlt)]
  exact q
 show wpAny _ _ _ _ _ { s with heap:=((s.heap.push (seqObj "list" #[] 0)).update s.heap.objs.size (Obj.mapSeq (· ++ vs.toArray))).push (seqObj "list" vs.toArray 0) }
 rw [hsz]
 refine wpAny_bind (wpAny_holding (wpAny_call_entry slot_list_sort ⟨_,hoL,rfl⟩ entry_list_sort (zj1 hoL (T.keeps fun b o q _=>keep b o q) hne h64 fun p hp=>⟨_,rfl,?_⟩) (args_list_sort _)))
 exact wpAny_pure ⟨_,rfl,h p hp⟩
end
end KS
namespace V2
open PySem PySem.Spec PyProof.Rows L2 KS
def zoj (ts:List (List Int)):List (List Int):=ts.mergeSort fun a b=>!lexB b a
theorem zmI {a b c:List Int} (h1:lexB b a=false) (h2:lexB c b=false):lexB c a=false:=by
 by_cases z:lexB c a=true
 ·by_cases y:lexB a b=true
  ·rw [zeG z y] at h2;cases h2
  ·have e:=zh8 (by simpa using y) h1
   subst e;rw [z] at h2;cases h2
 ·simpa using z
theorem zpQ (a b:List Int):lexB b a=false∨lexB a b=false:=by
 by_cases z:lexB b a=true
 ·right
  by_cases y:lexB a b=true
  ·have:=zeG z y;rw [zkV] at this;cases this
  ·simpa using y
 ·left;simpa using z
theorem znZ (ts:List (List Int)):(zoj ts).Perm ts:=List.mergeSort_perm ts _
theorem zri (ts:List (List Int)):(zoj ts).Pairwise fun a b=>lexB b a=false:=by
 have h:=List.pairwise_mergeSort (le:=fun a b:List Int=>!lexB b a) (fun a b c h1 h2=>by
  simp only [Bool.not_eq_true'] at h1 h2 ⊢;exact zmI h1 h2) (fun a b=>by
  rcases zpQ a b with z | z <;> simp [z]) ts
 exact h.imp fun h=>by simpa using h
theorem zh2 {ts us:List (List Int)} (p:us.Perm ts) (h:us.Pairwise fun a b=>lexB b a=false):us=zoj ts :=
 List.Perm.eq_of_pairwise (le:=fun a b=>lexB b a=false) (fun a b _ _ h1 h2=>zh8 h2 h1) h (zri ts) (p.trans (znZ ts).symm)
theorem range_getD {α:Type} (l:List α) (d:α):(List.range l.length).map (fun i=>l.getD i d)=l:=by
 apply List.ext_getElem
 ·simp
 ·intro i h1 h2;simp [h2]
theorem zp5 {ts:List (List Int)} {p:List Nat} (h:Srt ts p):p.map (fun i=>ts.getD i [])=zoj ts:=by
 refine zh2 ?_ ?_
 ·have:=h.1.map fun i=>ts.getD i []
  rwa [range_getD] at this
 ·exact List.pairwise_map.mpr h.2
def TupV (H:Hp):List V→List (List Int)→Prop
 | [],[]=>True
 | y :: ys,t :: ts=>(∃ b,y = .ref b∧H b=some (.tup (t.map V.int)))∧TupV H ys ts
 | _,_=>False
section
variable {X:Cx} {W:WX}
theorem zqx {pins:List (Addr × Obj)} {σ:L2.St} {H:Hp} {s:Shared} (I:Inv X pins σ H s):∀ {ys:List V} {us:List Value} {ts:List (List Int)},Vals ys us→TupV H ys ts→zdc s.heap us ts
 | [],[],[], .nil,_=>trivial
 | _ :: _,_ :: _,t :: ts, .cons r rs,⟨⟨b,e,hb⟩,T⟩=>by
  subst e
  cases r
  obtain ⟨_,its,vi,⟨o,ho,hcl,n,hdt⟩⟩:=I.hok b _ hb
  exact ⟨⟨b,o,_,n,rfl,ho,hcl,hdt,by simpa using intsAre_of vi⟩,zqx I rs T⟩
 | _ :: _,_ :: _,[],_,T=>T.elim
 | [],[],_ :: _,_,T=>T.elim
theorem zkY:∀ {ys:List V} {us:List Value},Vals ys us→∀ i,i < ys.length→RelV (ys.getD i .non) (us.getD i .none)
 | _ :: _,_ :: _, .cons r rs,0,_=>r
 | _ :: _,_ :: _, .cons r rs,i + 1,h=>by simpa using zkY rs i (by simpa using h)
theorem zl4 {ys:List V} {us:List Value} (r:Vals ys us):∀ {p:List Nat},(∀ i ∈ p,i < ys.length)→Vals (p.map fun i=>ys.getD i .non) (p.map fun i=>us.getD i .none)
 | [],_ => .nil
 | i :: p,h => .cons (zkY r i (h i (List.mem_cons_self ..))) (zl4 r fun j hj=>h j (List.mem_cons_of_mem _ hj))
theorem TupV.len {H:Hp}:∀ {ys:List V} {ts:List (List Int)},TupV H ys ts→ys.length=ts.length
 | [],[],_=>rfl
 | _ :: _,_ :: _,t=>by simp [TupV.len t.2]
 | [],_ :: _,t=>t.elim
 | _ :: _,[],t=>t.elim
theorem zlx:zeR X (.builtin "sorted") (fun xs H Q=>∃ (a:Addr) (ys:List V) (ts:List (List Int)),xs=[.ref a]∧SqL X.K H a ys∧TupV H ys ts∧(∀ t ∈ ts,t ≠ [])∧ys.length < 64∧∀ p,Srt ts p→∀ l,H l=none→Q (.ref l) (upd H l (.lst (p.map fun i=>ys.getD i .non)))):=by
 intro pins s σ H xs us Q I r h
 obtain ⟨a,ys,ts,rfl,hq,T,hne,h64,q⟩:=h
 obtain ⟨u,rfl,ru⟩:=vals1 r
 cases ru
 obtain ⟨its,rv,pl,hz⟩:=I.list hq
 have hl:its.length=ys.length:=by rw [← rv.length]
 refine zn4 pl.isList (zqx I rv T) hne (by omega) fun p hp=>?_
 have hin:∀ i ∈ p,i < ys.length:=fun i hi=>by
  have:=hp.1.mem_iff.mp hi
  rw [T.len];simpa using this
 have hpl:p.length=ys.length:=by rw [hp.1.length_eq,List.length_range,T.len]
 obtain ⟨e,he⟩:=sortedAll_at s.heap its (List.toArray (p.map fun i=>its.getD i Value.none))
 refine ⟨.ref (s.heap.objs.size + 1),_,I.laid (t':=s.toks) (o := .lst (p.map fun i=>ys.getD i .non)) (fun b o q=>sortedAll_old q) (Nat.le_succ _) ?_,rfl,q p hp _ (I.hok.fresh (Nat.le_succ _))⟩
 exact ⟨by rw [List.length_map,hpl,sizeLine_eq];omega,p.map (fun i=>its.getD i Value.none),e,zl4 rv hin,he⟩
def encI (t:List Int):A := .tup (t.map A.int)
def zvG:A→Option (List Int)
 | .tup ds=>(intsOf ds).bind fun ns=>if ns=[] then none else some ns
 | _=>none
def ziF:List A→Option (List (List Int))
 | []=>some []
 | a :: r=>(zvG a).bind fun t=>(ziF r).map fun ts=>t :: ts
theorem zk6:∀ {ds:List A} {ns:List Int},intsOf ds=some ns→ds=ns.map A.int
 | [],ns,h=>by simp only [intsOf,Option.some.injEq] at h;subst h;rfl
 | a :: ds,ns,h=>by
  cases a with
  | int i =>
   simp only [intsOf,Option.map_eq_some_iff] at h
   obtain ⟨ms,h1,rfl⟩:=h
   simp [zk6 h1]
  | _=>simp [intsOf] at h
theorem zk0:∀ {ds:List A} {ts:List (List Int)},ziF ds=some ts→ds=ts.map encI∧∀ t ∈ ts,t ≠ []
 | [],ts,h=>by simp only [ziF,Option.some.injEq] at h;subst h;simp
 | a :: ds,ts,h=>by
  simp only [ziF,Option.bind_eq_some_iff,Option.map_eq_some_iff] at h
  obtain ⟨t,h1,us,h2,rfl⟩:=h
  obtain ⟨e,hn⟩:=zk0 h2
  cases a with
  | tup xs =>
   simp only [zvG,Option.bind_eq_some_iff] at h1
   obtain ⟨ns,h3,h4⟩:=h1
   split at h4
   ·cases h4
   ·rename_i hne
    cases h4
    refine ⟨by simp [encI,zk6 h3,← e],fun t ht=>?_⟩
    rcases List.mem_cons.mp ht with z | z
    ·rw [z];exact hne
    ·exact hn t z
  | _=>cases h1
theorem zlz {K:PySem.W.Frag} {G:Hp} {ι:List Addr} {xs:List V} {ns:List Int} (d:DenL K G ι xs (ns.map A.int)):xs=ns.map V.int:=zgX (zeJ ns) d
theorem zqg {K:PySem.W.Frag} {G H:Hp} {ι:List Addr} (sub:Same G H):∀ {ts:List (List Int)} {ys:List V},DenL K G ι ys (ts.map encI)→TupV H ys ts
 | [],ys,d=>by rw [List.map_nil,zbh] at d;subst d;trivial
 | t :: ts,ys,d=>by
  obtain ⟨x,r,rfl,d1,d2⟩:=d.zcn
  simp only [encI,Den] at d1
  obtain ⟨b,xs,rfl,hG,dl⟩:=d1
  rw [zlz dl] at hG
  exact ⟨⟨b,rfl,sub _ _ hG⟩,zqg sub d2⟩
theorem zma {K:PySem.W.Frag} {G:Hp} {ι:List Addr}:∀ {ts:List (List Int)} {ys:List V},DenL K G ι ys (ts.map encI)→∀ i,i < ts.length→Den K G ι (ys.getD i .non) (encI (ts.getD i []))
 | t :: ts,ys,d,i,h=>by
  obtain ⟨x,r,rfl,d1,d2⟩:=d.zcn
  cases i with
  | zero=>exact d1
  | succ i=>simpa using zma d2 i (by simpa using h)
theorem zk1 {K:PySem.W.Frag} {G:Hp} {ι:List Addr} {ts:List (List Int)} {ys:List V} (d:DenL K G ι ys (ts.map encI)):∀ {p:List Nat},(∀ i ∈ p,i < ts.length)→DenL K G ι (p.map fun i=>ys.getD i .non) ((p.map fun i=>ts.getD i []).map encI)
 | [],_=>by rw [List.map_nil,List.map_nil,List.map_nil,zbh]
 | i :: p,h => .cons (zma d i (h i (List.mem_cons_self ..))) (zk1 d fun j hj=>h j (List.mem_cons_of_mem _ hj))
@[simp] def zpq (c:Bool) (as:List A):Mo A:=fun Ω=>match as with
 | [a]=>(match (zaG Ω a).bind ziF with
  | some ts=>if ts.length < 64 then mkL c ((zoj ts).map encI) Ω else none
  | none=>none)
 | _=>none
theorem zpz (c:Bool):zej X W (.builtin "sorted") (zpq c):=by
 refine ⟨_,zlx,?_⟩
 intro G ι Ω H σ xs as Q w d h
 unfold zpq at h
 split at h
 ·rename_i a
  split at h
  ·rename_i ts e
   split at h
   ·rename_i h64
    obtain ⟨x,rfl,d1⟩:=den1 d
    rw [Option.bind_eq_some_iff] at e
    obtain ⟨ds,e1,e2⟩:=e
    obtain ⟨p,ys,rfl,h2,h3⟩:=zby w d1 e1
    obtain ⟨e3,hne⟩:=zk0 e2
    rw [e3] at h3
    have hlen:ys.length=ts.length:=by rw [h3.length];simp
    refine ⟨p,ys,ts,rfl,h2,zqg w.sub h3,hne,by omega,fun q hq l hl=>?_⟩
    have dp:=zk1 h3 (p:=q) fun i hi=>by have:=hq.1.mem_iff.mp hi;simpa using this
    rw [zp5 hq] at dp
    exact zgP w hl dp h
   ·exact False.elim h
  ·exact False.elim h
 ·exact False.elim h
end
end V2
namespace V2
open PySem PySem.Spec PyProof.Rows L2
section
variable {X:Cx} {W:WX}
theorem zqi (hc:X.calm=true):zeR X (.builtin "max") (fun xs H Q=>∃ i j k:Int,xs=[.int i, .int j, .int k]∧Q (.int (max (max i j) k)) H):=by
 intro pins s σ H xs us Q I r h
 obtain ⟨i,j,k,rfl,q⟩:=h
 cases r with
 | cons r1 r =>
  cases r with
  | cons r2 r =>
   cases r with
   | cons r3 r =>
    cases r
    obtain ⟨t1,rfl⟩:=r1
    obtain ⟨t2,rfl⟩:=r2
    obtain ⟨t3,rfl⟩:=r3
    refine max_three_ints (I.ok.hd hc) fun h' tk kk=>⟨_,H,I.kept kk,?_,q⟩
    by_cases h1:j > i
    ·rw [if_pos h1]
     by_cases h2:k > j
     ·rw [if_pos h2];exact ⟨t3,by congr 1;omega⟩
     ·rw [if_neg h2];exact ⟨t2,by congr 1;omega⟩
    ·rw [if_neg h1]
     by_cases h2:k > i
     ·rw [if_pos h2];exact ⟨t3,by congr 1;omega⟩
     ·rw [if_neg h2];exact ⟨t1,by congr 1;omega⟩
@[simp] def zrj (as:List A):Mo A:=match as with
 | [.int i, .int j, .int k]=>ret (.int (max (max i j) k))
 | _=>stuck
theorem zr4 (hc:X.calm=true):zej X W (.builtin "max") zrj:=by
 refine ⟨_,zqi hc,?_⟩
 intro G ι Ω H σ xs as Q w d h
 unfold zrj at h
 split at h
 ·rename_i i j k
  simp only [DenL,Den] at d
  obtain ⟨_,_,rfl,rfl,_,_,rfl,rfl,_,_,rfl,rfl,rfl⟩:=d
  exact ⟨i,j,k,rfl,zbN w (by simp only [Den]) h⟩
 ·exact False.elim h
@[simp] def zn0 (as:List A):Mo A:=match as with
 | [.int i]=>ret (.int i)
 | [.bl b]=>ret (.int (if b then 1 else 0))
 | _=>stuck
theorem znN:zej X W (.type "int") zn0:=by
 refine ⟨_,zpd,?_⟩
 intro G ι Ω H σ xs as Q w d h
 unfold zn0 at h
 split at h
 ·rename_i i
  obtain ⟨x,rfl,d1⟩:=den1 d
  simp only [Den] at d1;subst d1
  exact .inl ⟨i,rfl,zbN w (by simp only [Den]) h⟩
 ·rename_i b
  obtain ⟨x,rfl,d1⟩:=den1 d
  simp only [Den] at d1;subst d1
  exact .inr ⟨b,rfl,zbN w (by simp only [Den]) h⟩
 ·exact False.elim h
end
end V2
namespace M
open PySem V2
end M
namespace V2
open PySem PySem.Spec PyProof PyProof.Rows L2
section
variable {X:Cx} {W:WX} {e a b:Expr} {es:List Expr} {pos:Pos} {fa fb:Ev→Mo A} {te:TE} {tl th tk:TO} {lo hi stp:Option Expr}
end
end V2
namespace L2
open PySem PySem.Spec PyProof.Rows
section
variable {X:Cx}
end
end L2
namespace V2
open PySem PySem.Spec PyProof.Rows L2
end V2
namespace L2
open PySem PySem.Spec PyProof.Rows
def BltB (h:Heap) (mg:Str→Option Value):Prop:=∃ bm o,mg "__builtins__" = some (.ref bm)∧bm ≠ builtinsNs∧h.get? bm=some o∧o.cls = .type "module"∧o.dict=some builtinsNs∧o.data = .plain
end L2
namespace L2
open PySem PySem.Spec PyProof.Rows
structure zw1 (h:Heap) (H:Hp) (f:Addr) (qual:Str) (params:Arguments) (body:Expr) (scope:Scope) (caps:List (Str × Int)):Prop where
 ex:∃ (cl:List (Str × Addr)) (pm ctv:Value) (c':Addr) (oc:Obj) (vs:Array Value) (t:Tok),
  H f=some (.frz (PySem.W.kla_obj "<lambda>" qual params body scope cl pm c' ctv) (.own 0))∧H c'=some (.frz oc (.own 0))∧oc.data = .fields vs∧vs[1]? = some (.str qual t) ∧
  (∀ x y c,cl.lookup x=some c→cl.lookup y=some c→x=y)∧(∀ y ∈ scope.names,y.2 = .free→∃ c,cl.lookup y.1=some c) ∧
  (∀ x c,cl.lookup x=some c→(∃ v,h.IsCell c v)∧H c=none)∧∀ p ∈ caps,∃ c t,cl.lookup p.1=some c∧h.IsCell c (some (.int p.2 t))
structure zrr (scope:Scope) (y:Str) (cs:List Str):Prop where
 kind:scope.kind = .function
 co:scope.isCoroutine=false
 gen:scope.isGenerator=false
 nocell:∀ x ∈ scope.names,x.2 ≠ .cell
 par:scope.names.lookup y=some .local
 cap:∀ x ∈ cs,scope.names.lookup x=some .free
section
variable {P:Program} {w:World} {K:PySem.W.Frag} {mg:Str→Option Value} {base:Heap} {A:Around} {outer:List Env} {s:Shared} {H:Hp}
end
end L2
namespace V2
open PySem PySem.Spec PyProof.Rows L2
section
variable {X:Cx} {W:WX} {e:Expr} {fa:Ev→Mo A} {p pos:Pos}
end
end V2
namespace L2
open PySem PySem.Spec PyProof.Rows
section
variable {X:Cx}
end
end L2
namespace L2
open PySem PySem.Spec PyProof.Rows
end L2
namespace V2
open PySem PySem.Spec PyProof.Rows L2
structure TabF (K:PySem.W.Frag) (mg:Str→Option Value) (base:Heap) (x:Str):Prop where
 kin:K.In base
 glob:base.Ns mainGlobals mg
 blt:BltB base mg
 hd:∃ c P,PySem.W.tabIn K x=some (c,P)∧PySem.W.codeHdIn K c P=true
section
variable {P:Program} {w:World} {K:PySem.W.Frag} {mg:Str→Option Value} {base:Heap}
end
end V2
namespace V2
open PySem PySem.Spec PyProof.Rows L2
section
variable {X:Cx} {W:WX} {e:Expr} {fa:Ev→Mo A} {p pos:Pos}
end
end V2
namespace V2
open PySem PySem.Spec PyProof.Rows L2
structure FwOk (X:Cx) (scope:Scope) (y:Str) (cs:List Str) (js:List Nat):Prop where
 S:zrr scope y cs
 free:∀ y ∈ scope.names,y.2 = .free→X.env.kindOf y.1=some .cell∨X.env.kindOf y.1=some .free
 caps:js.map (fun j=>X.N[j]?)=cs.map some
 cell:∀ x ∈ cs,X.env.scope.names.lookup x=some .cell
def ztQ (sc:Scope) (N:List Str) (scope:Scope) (y:Str) (cs:List Str) (js:List Nat):Prop :=
 ((scope.kind == .function)=true∧scope.isCoroutine=false∧scope.isGenerator=false)∧(∀ x ∈ scope.names,(x.2 == .cell)=false)∧(scope.names.lookup y == some .local)=true∧(∀ x ∈ cs,(scope.names.lookup x == some .free)=true) ∧
 (∀ y ∈ scope.names,(y.2 == .free)=true→(sc.names.lookup y.1 == some .cell)=true)∧js.map (fun j=>N[j]?)=cs.map some∧∀ x ∈ cs,(sc.names.lookup x == some .cell)=true
instance (sc:Scope) (N:List Str) (scope:Scope) (y:Str) (cs:List Str) (js:List Nat):Decidable (ztQ sc N scope y cs js):=by unfold ztQ;infer_instance
theorem FwOk.of {X:Cx} {scope:Scope} {y:Str} {cs:List Str} {js:List Nat} (sc:Scope) (N:List Str) (h1:X.env.scope=sc) (h2:X.N=N) (h:ztQ sc N scope y cs js):FwOk X scope y cs js:=by
 obtain ⟨⟨a1,a2,a3⟩,a4,a5,a6,a7,a8,a9⟩:=h
 refine ⟨⟨by simpa using a1,a2,a3,fun x hx=>by simpa using a4 x hx,by simpa using a5,fun x hx=>by simpa using a6 x hx⟩,fun y hy hf => .inl ?_,by rw [h2];exact a8,fun x hx=>by rw [h1];simpa using a9 x hx⟩
 have:=a7 y hy (by simp [hf])
 show X.env.scope.names.lookup y.1=some .cell
 rw [h1];simpa using this
@[elab_as_elim] theorem us0 {P:List Value→Prop} (us:List Value) (h:us.length=0) (f:P []):P us:=by cases us with | nil=>exact f | cons _ _=>simp at h
@[elab_as_elim] theorem us1 {P:List Value→Prop} (us:List Value) (h:us.length=1) (f:∀ a,P [a]):P us:=by
 cases us with
 | nil=>simp at h
 | cons a r=>exact us0 r (by simpa using h) (f a)
@[elab_as_elim] theorem us2 {P:List Value→Prop} (us:List Value) (h:us.length=2) (f:∀ a b,P [a,b]):P us:=by
 cases us with
 | nil=>simp at h
 | cons a r=>exact us1 (P:=fun r=>P (a :: r)) r (by simpa using h) (f a)
@[elab_as_elim] theorem us3 {P:List Value→Prop} (us:List Value) (h:us.length=3) (f:∀ a b c,P [a,b,c]):P us:=by
 cases us with
 | nil=>simp at h
 | cons a r=>exact us2 (P:=fun r=>P (a :: r)) r (by simpa using h) (f a)
section
variable {P:Program} {w:World} {K:PySem.W.Frag} {mg:Str→Option Value} {base:Heap}
end
end V2
namespace M
open PySem V2
end M
namespace V2
open PySem PySem.Spec PyProof.Rows L2
section
variable {X:Cx} {W:WX}
end
end V2
namespace M
open PySem V2
end M
namespace L2
open PySem PySem.Spec PyProof.Rows
section
variable {prog:Program} {w:World} {A:Around} {E:Value→Shared→Prop} {h:Heap} {g:Array GenState} {d:Drawn} {t:Nat} {os:OsState}
variable {nm q:Str} {C N:Addr} {bs bm bmB:List Value} {hdct:Bool} {sn:List Str} {sub:List Value} {ab:Bool} {col:Option Bool} {dd:Option Addr} {k0 k1 k2 k3 k5:Option Value} {B newId initId:String}
theorem zlL (F:ExcBaseFacts B newId initId bmB) (T:OwnTail h bmB bm) {mN:Str→Option Value} {rest:List Value} {fI:Addr} {oI:Obj} {Q:Fin→Shared→Prop}
  (hC:h.get? C=some (excClassObj nm q C N bs bm hdct sn sub ab col dd k0 k1 k2 k3 k5 newId)) (hn:h.Ns N mN) (hi:mN "__init__" = some (.ref fI))
  (hfI:h.get? fI=some oI) (hfc:oI.cls = .type "function")
  (hq:∀ h' e,Heap.MadeExcOf h h' e (.ref C) rest→h.objs.size ≤ e →
   wpAny (model prog w) A (call (.ref fI) (.ref e :: rest)) (fun r s'=>r = .none∧Q (.done (.ret (.ref e))) s') E ⟨h',g,d,t,os⟩) (hrest:rest.length ≤ sizeLine:=by size_fits) :
  wpAny (model prog w) A (Builtin.«type.__call__» ⟨.ref C :: rest,[]⟩) Q E ⟨h,g,d,t,os⟩:=by
 have hBn:bmB.contains (.type B)=true:=F.hasB
 repeat (first | with_reducible refine wpAny_loadPart_at hC ?_ | with_reducible refine wpAny_madeBy_exc hC ?_ | wp_step)
 refine codeAny_call_builtin_code (Code.quiet_builtin _ F.quiet) (wpAny_check_new_subU F hBn T hC ?_)
 refine codeAny_exc_new_subU F hBn F T hC ?_ hrest
 show wpAny _ _ _ _ _ _
 have hC₁:=Heap.get?_push_of_some { cls := .ref C,data := .fields #[.ref h.objs.size, .none, .none, .none, .bool false, .none] }
  (Heap.get?_push_of_some { cls := .type "tuple",data := .seq rest.toArray } hC)
 have hfI₁:=Heap.get?_push_of_some { cls := .ref C,data := .fields #[.ref h.objs.size, .none, .none, .none, .bool false, .none] }
  (Heap.get?_push_of_some { cls := .type "tuple",data := .seq rest.toArray } hfI)
 have hn₁:((h.push { cls := .type "tuple",data := .seq rest.toArray }).push { cls := .ref C,data := .fields #[.ref h.objs.size, .none, .none, .none, .bool false, .none] }).Ns N mN :=
  let ⟨o,es,ep,e,r⟩:=hn; ⟨o,es,ep,Heap.get?_push_of_some _ (Heap.get?_push_of_some _ e),r⟩
 have hget:((h.push { cls := .type "tuple",data := .seq rest.toArray }).push
   { cls := .ref C,data := .fields #[.ref h.objs.size, .none, .none, .none, .bool false, .none] }).get? (h.objs.size + 1)=some
   { cls := .ref C,data := .fields #[.ref h.objs.size, .none, .none, .none, .bool false, .none] }:=by heap_get
 have hcC:(Value.ref C :: bm).contains (.ref C)=true:=by simp
 have T₁:=T.keeps (h':=(h.push { cls := .type "tuple",data := .seq rest.toArray }).push { cls := .ref C,data := .fields #[.ref h.objs.size, .none, .none, .none, .bool false, .none] })
  fun b o e=>Heap.get?_push_of_some _ (Heap.get?_push_of_some _ e)
 unfold isInstance
 repeat (first | with_reducible refine wpAny_loadPart_at hget ?_ | (with_reducible refine wpAny_isSubtype_exc hC₁ ?_;rw [hcC]) | wp_step)
 show wpAny _ _ (typeLookup (.ref C) _) _ _ _
 refine wpAny_typeLookup_tail hC₁ hn₁ T₁ F.mroIs F.init.lookup ?_
 rw [hi]
 refine wpAny_holding (wpAny_bind ?_)
 unfold bindSpecial
 refine wpAny_bind (wpAny_typeOf (T := "function") ⟨_,hfI₁,hfc⟩ ?_)
 rw [if_pos (by decide)]
 refine wpAny_pure (wpAny_bind (wpAny_mono (hq _ (h.objs.size + 1) ⟨fun b o hb=>Heap.get?_push_of_some _ (Heap.get?_push_of_some _ hb),Heap.get?_none_of_le (Nat.le_succ _),h.objs.size,hget,Heap.get?_none_of_le (Nat.le_refl _),?_⟩ (Nat.le_succ _)) (fun r s' hr=>?_) fun _ _ x=>x))
 ·exact Heap.get?_push_of_some _ (Heap.get?_push_at rfl rfl)
 ·obtain ⟨rfl,hQ⟩:=hr
  wp_walk
  exact hQ
theorem ztK (F:ExcBaseFacts B newId initId bmB) (T:OwnTail h bmB bm) {mN:Str→Option Value} {rest:List Value} {fI:Addr} {oI:Obj} {Q:Value→Shared→Prop}
  (hC:h.get? C=some (excClassObj nm q C N bs bm hdct sn sub ab col dd k0 k1 k2 k3 k5 newId)) (hn:h.Ns N mN) (hi:mN "__init__" = some (.ref fI))
  (hfI:h.get? fI=some oI) (hfc:oI.cls = .type "function")
  (hq:∀ h' e,Heap.MadeExcOf h h' e (.ref C) rest→h.objs.size ≤ e →
   wpAny (model prog w) (A.under (.builtin "type.__call__" ⟨.ref C :: rest,[]⟩)) (call (.ref fI) (.ref e :: rest)) (fun r s'=>r = .none∧Q (.ref e) s') E ⟨h',g,d,t,os⟩) (hrest:rest.length ≤ sizeLine:=by size_fits) :
  wpAny (model prog w) A (call (.ref C) rest) Q E ⟨h,g,d,t,os⟩:=by
 have f1:=tc_lookup
 have f2:=tc_bind (.ref C)
 have hT:(⟨h,g,d,t,os⟩ : Shared).TypeIs (.ref C) "type":=⟨_,hC,rfl⟩
 refine wpAny_call (codeAny_of_tree ?_)
 show wpAny _ _ (callAny (.ref C) _) _ _ _
 repeat (any_goals (first | assumption | with_reducible refine wpAny_loadPart_at hC ?_ | wp_step))
 refine ⟨rfl,?_⟩
 refine codeAny_call_builtin_at (Code.quiet_builtin _ (by decide +kernel)) entry_typeCall (wpAny_check_type_call_sub hC (zlL (hrest:=hrest) F T hC hn hi hfI hfc fun h' e hm hz=>?_))
 exact hq h' e hm hz
end
end L2
namespace L2
open PySem PySem.Spec PyProof.Rows
abbrev zef (C t:Addr) (dx:Option Addr):Obj:={ cls := .ref C,dict:=dx,data := .fields #[.ref t, .none, .none, .none, .bool false, .none] }
section
variable {prog:Program} {w:World} {A:Around} {E:Value→Shared→Prop} {h:Heap} {g:Array GenState} {d:Drawn} {t:Nat} {os:OsState}
variable {nm q:Str} {C N:Addr} {bs bm bmB:List Value} {hdct:Bool} {sn:List Str} {sub:List Value} {ab:Bool} {col:Option Bool} {dd:Option Addr} {k0 k1 k2 k3 k5:Option Value} {B newId initId:String}
theorem zub (F:ExcBaseFacts B newId initId bmB) (T:OwnTail h bmB bm) {v:Value} {e t0:Addr} {Q:Value→Shared→Prop}
  (hC:h.get? C=some (excClassObj nm q C N bs bm hdct sn sub ab col dd k0 k1 k2 k3 k5 newId)) (he:h.get? e=some (zef C t0 none))
  (hq:∀ h' t1,(∀ b o,b ≠ e→h.get? b=some o→h'.get? b=some o)→h'.get? e=some (zef C t1 none)→Q .none ⟨h',g,d,t,os⟩) :
  wpAny (model prog w) A (call (.builtin initId) [.ref e,v]) Q E ⟨h,g,d,t,os⟩:=by
 refine wpAny_call (codeAny_call_builtin F.init.plain F.initEntry (wpAny_check_init_subU F T hC he rfl ?_))
 wp_walk
 refine hq _ h.objs.size (fun b o hb hbo=>?_) ?_
 ·rw [Heap.get?_update_other _ _ (Ne.symm hb)]
  exact Heap.get?_push_of_some _ hbo
 ·rw [Heap.get?_update_self _ (Heap.get?_push_of_some _ he) rfl]
  rfl
end
end L2
namespace L2
open PySem PySem.Spec PyProof.Rows Builtin Builtin.ObjectAttr
theorem zmX {h:Heap} {bmB tl:List Value} (T:OwnTail h bmB tl) (self:Value) (what:Str):refuseLoop self what tl=refuseLoop self what bmB:=by
 induction T with
 | base=>rfl
 | own _ _ _ _ ih=>rw [refuseLoop_ref,ih]
theorem zfj {M:Model} {A:Around} {E:Value→Shared→Prop} {K:PySem.W.Frag} {s:Shared} {C:Addr} {n:Str} {y:Option Value} {Q:Option Value→Shared→Prop} (X:K.In s.heap) (e:PySem.W.findIn K (.ref C) n=some y) (q:Q y s):wpAny M A (typeLookup (.ref C) n) Q E s :=
 (PySem.W.looks_findIn X e).here q
section
variable {prog:Program} {w:World} {A:Around} {E:Value→Shared→Prop} {h:Heap} {g:Array GenState} {d:Drawn} {t:Nat} {os:OsState} {K:PySem.W.Frag}
variable {nm q:Str} {C N:Addr} {bs bm:List Value} {sn:List Str} {sub:List Value} {ab:Bool} {col:Option Bool} {dd:Option Addr} {k0 k1 k2 k3 k5:Option Value} {newId:String}
set_option maxHeartbeats 2000000 in
theorem zvu {Q:Unit→Shared→Prop} {name:Str} {v:Value} {e t0:Addr} (X:K.In h) (T:OwnTail h bmVE bm)
  (hC:h.get? C=some (excClassObj nm q C N bs bm true sn sub ab col dd k0 k1 k2 k3 k5 newId)) (he:h.get? e=some (zef C t0 none))
  (hs:PySem.W.findIn K (.ref C) "__setattr__" = some (some (.builtin "object.__setattr__"))) (hf:PySem.W.findIn K (.ref C) name=some none)
  (hq:∀ h' tk' dx,h.objs.size ≤ dx→(∀ b o,b ≠ e→h.get? b=some o→h'.get? b=some o)→h'.get? e=some (zef C t0 (some dx))→h'.Ns1 dx (fun y=>if y=name then some v else none)→Q () ⟨h',g,d,tk',os⟩) :
  wpAny (model prog w) A (setAttr (.ref e) name v) Q E ⟨h,g,d,t,os⟩:=by
 have SF:=PySem.F.store_ValueError
 have f3:=SF.slot.bind (.ref e)
 have hpass:=SF.passes (.ref e)
 have hcont:(Value.ref C :: bm).contains (.type "object")=true:=by rw [List.contains_cons,T.hasType (b:=true) (by decide),Bool.or_true]
 have hcheck:∀ {nameV:Value} {tk:Nat} {Q':Unit→Shared→Prop},Q' () ⟨h,g,d,tk,os⟩→∀ (A':Around) (E':Value→Shared→Prop),wpAny (model prog w) A' (checkBuiltinCall "object.__setattr__" ⟨[.ref e,nameV,v],[]⟩) Q' E' ⟨h,g,d,tk,os⟩:=by
  intro nameV tk Q' hq' A' E'
  have ha:=SF.args (.ref e) nameV v
  simp only [checkBuiltinCall,SF.kind,SF.split]
  refine wpAny_bind ?_
  unfold isInstance
  repeat (first | with_reducible refine wpAny_loadPart_at he ?_ | (with_reducible refine wpAny_isSubtype_exc hC ?_;rw [hcont]) | wp_step)
  exact hq'
 have hty:∀ {tk:Nat} {Q':Value→Shared→Prop} {A':Around} {E':Value→Shared→Prop},Q' (.ref C) ⟨h,g,d,tk,os⟩→wpAny (model prog w) A' (typeOf (.ref e)) Q' E' ⟨h,g,d,tk,os⟩:=by
  intro tk Q' A' E' hq'
  unfold typeOf
  repeat (first | with_reducible refine wpAny_loadPart_at he ?_ | wp_step)
  exact hq'
 unfold setAttr callSpecial? specialOf
 refine wpAny_bind (wpAny_mkText (wpAny_bind (wpAny_bind (wpAny_bind (hty (zfj (s:=⟨h,g,d,t + 1,os⟩) X hs (wpAny_holding ?_)))))))
 rw [f3]
 refine wpAny_bind (wpAny_pure (wpAny_bind (wpAny_call (codeAny_call_builtin SF.slot.plain SF.entry (hcheck ?_ _ _)))))
 show wpAny _ _ (Builtin.«object.__setattr__» ⟨[.ref e, .str name t,v],[]⟩) _ _ _
 rw [PySem.W.osa_eq,refuse_eq]
 refine wpAny_bind (wpAny_bind (hty (wpAny_bind (wpAny_mroOf_exc hC ?_))))
 rw [refuseLoop_ref,zmX T,hpass]
 refine wpAny_pure (wpAny_bind (hty (wpAny_bind (zfj (s:=⟨h,g,d,t + 1,os⟩) X hf (wpAny_bind (wpAny_pure ?_))))))
 show wpAny _ _ (storeInOwnDict _ _ _ _ _ _) _ _ _
 unfold storeInOwnDict
 refine wpAny_bind (wpAny_pure ?_)
 rw [if_neg (by simp)]
 have he₁:(h.push { cls := .type "dict",data := .dict #[] }).get? e=some (zef C t0 none):=Heap.get?_push_of_some _ he
 have hxs:e ≠ h.objs.size:=Nat.ne_of_lt (Heap.lt_size he)
 have hgd:((h.push { cls := .type "dict",data := .dict #[] }).update e fun o=>{ cls:=o.cls,dict:=some h.objs.size,data:=o.data,slots:=o.slots }).get? h.objs.size
   = some { cls := .type "dict",data := .dict #[] }:=(Heap.get?_update_ne _ _ _ _ hxs.symm).trans (Heap.get?_push_at rfl rfl)
 have hnd:((h.push { cls := .type "dict",data := .dict #[] }).update e fun o=>{ cls:=o.cls,dict:=some h.objs.size,data:=o.data,slots:=o.slots }).Ns h.objs.size (fun _=>none) :=
  ⟨_,#[],_,hgd,rfl,fun e he=>absurd he (by simp),fun _=>rfl⟩
 have hex:((h.push { cls := .type "dict",data := .dict #[] }).update e fun o=>{ cls:=o.cls,dict:=some h.objs.size,data:=o.data,slots:=o.slots }).get? e=some (zef C t0 (some h.objs.size)) :=
  Heap.get?_update_self _ he₁ rfl
 refine wpAny_bind ?_
 unfold ownDictForStores instanceDict
 repeat (first | with_reducible refine wpAny_loadPart_at he ?_ | with_reducible refine wpAny_loadPart_at hC ?_ | with_reducible refine wpAny_alloc' ?_ | with_reducible refine wpAny_update' he₁ ?_ | ((fail_if_success with_reducible refine wpAny_nsSet1 (Heap.Ns1.of_empty hnd) fun h' hn' hs'=>?_);wp_step))
 refine wpAny_nsSet1 (Heap.Ns1.of_empty hnd) fun h' hn' hs'=>?_
 obtain ⟨oD,esD,epD,hoD,hdD,hcD⟩:=hn'.count (Within.cons name v Within.nil)
 refine wpAny_bind (wpAny_lookBehind hoD (by rw [hdD];exact pastItsLine_dict (Nat.le_trans hcD (by rw [List.length_cons,List.length_nil,sizeLine_eq];omega))) ?_)
 wp_walk
 refine hq h' _ h.objs.size (Nat.le_refl _) (fun b ob hbx hb=>?_) ((hs'.2 e hxs).trans hex) hn'
 exact (hs'.2 b (Nat.ne_of_lt (Heap.lt_size hb))).trans ((Heap.get?_update_ne _ _ _ _ hbx).trans (Heap.get?_push_of_some _ hb))
end
end L2
namespace L2
open PySem PySem.Spec PyProof.Rows
theorem zi9:(Str.empty:Str).length=0:=by decide
theorem text_len {y:Str} {i:Int} (hy:y.length ≤ 1000) (hl:i.natAbs.log2 < 1920):(Str.empty ++ y ++ Str.ofString (toString i)).length ≤ 3000:=by
 have e:=int_text_length_le (k:=1920) (by decide) hl
 rw [strLen_append,strLen_append,zi9,PySem.ofString_length];omega
section
variable {X:Cx}
def zsm (j:Nat):TE:=fun σ H Q=>∃ i,σ[j]? = some (some (.int i))∧i.natAbs.log2 < 1920∧∀ x,Q (.str x) H
theorem znF {j c:Nat} {a y:Str} {p1 p2 p3 pos:Pos} (hN:X.N[j]? = some a) (hv:Vis X.env.scope a) (hd:(a == ("__debug__" : Str))=false:=by decide) (hcd:(a == ("__classdict__" : Str))=false:=by decide) (hy:y.length ≤ 1000:=by decide) :
  PE X (.JoinedStr [.Constant (.str y) c p1, .FormattedValue (.Name a p2) (-1) none p3] pos) (zsm j):=by
 intro pins s σ H Q I ⟨i,hi,hl,q⟩
 refine JoinedStr_many (joinParts_cons (Calls.Constant_str ⟨?_,joinParts_cons (FormattedValue_plain (thn (ziM hN hv hd hcd pins _ σ H (fun v H'=>v = .int i∧H'=H) (I.tok _) ⟨_,hi,rfl,rfl⟩) fun u s1 ⟨v,H1,I1,r1,e1,e2⟩=>?_))⟩))
 ·rw [strLen_append,zi9,sizeLine_eq];omega
 ·subst e1 e2
  obtain ⟨t,rfl⟩:=r1
  have z:=text_len hy hl
  refine formatField_int_small hl ⟨by rw [sizeLine_eq];omega,joinParts_nil ⟨.str _,_,(I1.tok _),⟨_,rfl⟩,q _⟩ (by rw [sizeLine_eq];omega)⟩
theorem zq8 {j c c':Nat} {a y z:Str} {p1 p2 p3 p4 pos:Pos} (hN:X.N[j]? = some a) (hv:Vis X.env.scope a) (hd:(a == ("__debug__" : Str))=false:=by decide) (hcd:(a == ("__classdict__" : Str))=false:=by decide) (hy:y.length ≤ 1000:=by decide) (hz:z.length ≤ 1000:=by decide) :
  PE X (.JoinedStr [.Constant (.str y) c p1, .FormattedValue (.Name a p2) (-1) none p3, .Constant (.str z) c' p4] pos) (zsm j):=by
 intro pins s σ H Q I ⟨i,hi,hl,q⟩
 refine JoinedStr_many (joinParts_cons (Calls.Constant_str ⟨?_,joinParts_cons (FormattedValue_plain (thn (ziM hN hv hd hcd pins _ σ H (fun v H'=>v = .int i∧H'=H) (I.tok _) ⟨_,hi,rfl,rfl⟩) fun u s1 ⟨v,H1,I1,r1,e1,e2⟩=>?_))⟩))
 ·rw [strLen_append,zi9,sizeLine_eq];omega
 ·subst e1 e2
  obtain ⟨t,rfl⟩:=r1
  have y1:=text_len hy hl
  have y2:(Str.empty ++ y ++ Str.ofString (toString i) ++ z).length ≤ 4000:=by rw [strLen_append];omega
  refine formatField_int_small hl ⟨by rw [sizeLine_eq];omega,joinParts_cons (Calls.Constant_str ⟨by rw [sizeLine_eq];omega,joinParts_nil ⟨.str _,_,((I1.tok _).tok _),⟨_,rfl⟩,q _⟩ (by rw [sizeLine_eq];omega)⟩)⟩
end
end L2
namespace L2
open PySem PySem.Spec PyProof.Rows
theorem zok {K:PySem.W.Frag} {h:Heap} {N:Addr} {mg:Str→Option Value} {n:Str} {v:Value} (X:K.In h) (G:h.Ns N mg) (e:PySem.W.nsIn K N n=some (some v)):mg n=some v:=by
 obtain ⟨o,es,ep,ho,hd,_,hf⟩:=G
 unfold PySem.W.nsIn at e
 split at e
 ·rename_i c d es' n' sl q
  have:=X _ _ q
  rw [ho] at this
  cases this
  cases hd
  split at e
  ·rename_i en he
   cases e
   rw [← hf]
   unfold nsFind findBy
   rw [← Array.find?_toList,he]
   rfl
  ·split at e <;> cases e
 ·cases e
def zl6 (K:PySem.W.Frag) (C fI:Addr):Bool:=match K.lookup C with
 | some ⟨.type "type",_, .cls cd,sl⟩=>(match cd.mro,sl.toList with
  | .ref C' :: bm,[_,_,_,_,some (.builtin n),_]=>C' == C && n == "ValueError.__new__" && !cd.hasDel && cd.hasDict && PySem.W.tailIn K bmVE bm && PySem.W.nsOkIn K cd.ns && PySem.W.nsIn K cd.ns "__init__" == some (some (.ref fI))
  | _,_=>false)
 | _=>false
structure OwnI (K:PySem.W.Frag) (C fI:Addr) (fld:Str):Prop where
 inK:zl6 K C fI=true
 fn:PySem.W.typeIn K (.ref fI)=some (.type "function")
 setA:PySem.W.findIn K (.ref C) "__setattr__" = some (some (.builtin "object.__setattr__"))
 nof:PySem.W.findIn K (.ref C) fld=some none
theorem OwnI.obj {K:PySem.W.Frag} {C fI:Addr} {fld:Str} (O:OwnI K C fI fld) {h:Heap} (X:K.In h):∃ bm N nm q bs sn sub ab col dd k0 k1 k2 k3 k5 mN oI,h.get? C=some (excClassObj nm q C N bs bm true sn sub ab col dd k0 k1 k2 k3 k5 "ValueError.__new__")∧h.Ns N mN∧mN "__init__" = some (.ref fI)∧OwnTail h bmVE bm∧h.get? fI=some oI∧oI.cls = .type "function":=by
 have q:=O.inK
 obtain ⟨oI,ho',hc'⟩:=Option.map_eq_some_iff.mp O.fn
 unfold zl6 at q
 split at q
 ·rename_i dd cd sl ho
  split at q
  ·rename_i C' bm k0 k1 k2 k3 n k5 hm hs
   simp only [Bool.and_eq_true,beq_iff_eq,Bool.not_eq_true'] at q
   obtain ⟨⟨⟨⟨⟨⟨rfl,rfl⟩,hdel⟩,hdi⟩,ht⟩,hok⟩,hni⟩:=q
   obtain ⟨nm,bs,mro,ns,qn,hd,sn,sub,ab,col,del⟩:=cd
   dsimp only at hm hdel hok hni hdi
   subst hm hdel hdi
   have hsl:sl = #[k0,k1,k2,k3,some (.builtin "ValueError.__new__"),k5]:=by
    obtain ⟨l⟩:=sl
    simp only at hs
    rw [hs]
   subst hsl
   exact ⟨bm,ns,nm,qn,bs,sn,sub,ab,col,dd,k0,k1,k2,k3,k5,_,oI,X _ _ ho, .of_isNs (PySem.W.isNs_of_in X hok),zok X (.of_isNs (PySem.W.isNs_of_in X hok)) hni,PySem.W.tail_of_in X ht,X _ _ ho',hc'⟩
  ·cases q
 ·cases q
structure ztL (K:PySem.W.Frag) (R:Addr):Prop where
 reads:PySem.W.readsIn K R (.type "type")=true
 find:PySem.W.findCls K (.ref R) (.type "type") "__init__" = some (.val (.builtin "ValueError.__init__"))
 ga:PySem.W.specialIn K (.ref R) "__getattribute__" = some (some (.builtin "type.__getattribute__"))
theorem zpn:PySem.W.handedIn (.builtin "ValueError.__init__")=true:=by decide +kernel
end L2
namespace L2
open PySem PySem.Spec PyProof.Rows
def zrS (X:Cx) (H:Hp) (s1:Shared) (e C:Addr) (fld:Str) (i:Int) (s':Shared):Prop:=∃ dx t1,s1.heap.objs.size ≤ dx∧dx ≠ e∧s'.os=s1.os∧AllBare s'.gens ∧
 Un (frs X.stack) [] H (upd H dx (.xd [(fld, .int i)])) s1.heap s'.heap∧HOk X.prog X.w (upd H dx (.xd [(fld, .int i)])) s'.heap∧s'.heap.get? e=some (zef C t1 (some dx))
section
variable {X:Cx} {pins:List (Addr × Obj)} {σ:St} {H:Hp} {s1:Shared} {C fI R e:Addr} {fld qual rk sf pa:Str} {st:Stmt} {fd:FuncData} {t:Tok} {i:Int} {h2:Heap} {k:Nat} {je:Expr} {np ap cp ep p1 p2 ap2 p3 apos:Pos}
theorem Inv.zt1 {Z:Cx} {s0 s3:Shared} {τ:St} {H:Hp} (J:Inv Z [] τ H s3) (hH:Z.H₀=H) (hex:Z.ex=[]) (hos:s0.os=Z.s₀.os) (hsz:s0.heap.objs.size ≤ Z.s₀.heap.objs.size) (k:∀ b o,s0.heap.get? b=some o→s3.heap.get? b=some o)
  (bs:∀ b o,Z.base.get? b=some o→s0.heap.get? b=some o∧H b=none) (bsz:Z.base.objs.size ≤ s0.heap.objs.size) (funs:s0.heap.FunFrames Z.base Z.outer):Inv { Z with s₀:=s0 } [] τ H s3 :=
 ⟨⟨J.ok.mod,J.ok.kind,J.ok.glob,J.ok.blt,Nat.le_trans hsz J.ok.above,J.ok.inj,J.ok.has,fun x c a b=>Nat.le_trans hsz (J.ok.cab x c a b),J.ok.hd,J.ok.frames,J.ok.stk,J.ok.exf,fun b o h=>by subst hH;exact bs b o h,bsz,J.ok.noex,J.ok.exfs,funs,J.ok.frf⟩,
  J.os.trans hos.symm,J.bare,by subst hH;exact Un.kept k,J.loc,J.cell,J.free,J.freeC,J.pin,J.hok,J.len⟩
end
end L2
namespace L2
open PySem PySem.Spec PyProof.Rows
section
variable {X:Cx} {pins:List (Addr × Obj)} {σ:St} {H:Hp} {s1:Shared} {C fI R e:Addr} {fld qual rk sf pa:Str} {st:Stmt} {fd:FuncData} {t:Tok} {i:Int} {h2:Heap} {k:Nat} {je:Expr} {np ap cp ep p1 p2 ap2 p3 apos:Pos}
structure znY (st:Stmt) (fld rk sf pa:Str):Prop where
 scope:zaz [sf,pa] [sf,pa] (zae st)
 glob:(zae st).names.lookup rk=some .globalImplicit
 loc0:(zae st).names.lookup sf=some .local
 loc1:(zae st).names.lookup pa=some .local
 dbg:(rk == ("__debug__" : Str))=false∧(sf == ("__debug__" : Str))=false∧(pa == ("__debug__" : Str))=false∧(sf == ("__classdict__" : Str))=false∧(pa == ("__classdict__" : Str))=false
 text:∃ (je:Expr) (np ap cp ep p1 p2 ap2 p3 apos:Pos),zap st=[.Expr (.Call (.Attribute (.Name rk np) "__init__" ap) [.Name sf p1,je] [] cp) ep, .Assign [.Attribute (.Name sf p2) fld ap2] (.Name pa p3) apos] ∧
  (∀ env,starEach [.Name sf p1,je] env=(false,eval (.Name sf p1) env) :: starEach [je] env)∧(∀ env,starEach [je] env=(false,eval je env) :: starEach [] env) ∧
  (∀ env:Env,∃ pl,eval (.Call (.Attribute (.Name rk np) "__init__" ap) [.Name sf p1,je] [] cp) env=(do
   let ov ← eval (.Name rk np) env
   standAt ap.atName
   let (f,first) ← holding [ov] (getMethod ov "__init__" pl)
   callWith cp f first (backTo cp (starEach [.Name sf p1,je] env)) [])) ∧
  (∀ env,swapsWith (.Call (.Attribute (.Name rk np) "__init__" ap) [.Name sf p1,je] [] cp) none ep.line env=pure false) ∧
  (∀ env,swapsWith (.Name pa p3) (some (.Attribute (.Name sf p2) fld ap2)) apos.line env=pure false) ∧
  (∀ Y:Cx,Y.N=[sf,pa]→Y.env.scope=zae st→PE Y je (zsm 1))
theorem ztl (O:OwnI X.K C fI fld) (B:ztL X.K R) (F:Fun X.K "__init__" qual st fI fd) (S:znY st fld rk sf pa) (hb:Binds X.K fd [sf,pa] []) (hmR:X.mg rk=some (.ref R))
  (hr:Room (k + 2) X.A) (hi:i.natAbs.log2 < 1920) (I:Inv X pins σ H s1) (M:Heap.MadeExcOf s1.heap h2 e (.ref C) [.int i t]) (he:s1.heap.objs.size ≤ e) {E:Value→Shared→Prop} :
  wpAny (model X.prog X.w) (X.A.under (.builtin "type.__call__" ⟨[.ref C, .int i t],[]⟩)) (call (.ref fI) [.ref e, .int i t]) (fun r s'=>r = .none∧zrS X H s1 e C fld i s') E { s1 with heap:=h2 }:=by
 obtain ⟨je,np,ap,cp,ep,p1,p2,ap2,p3,apos,hbody,hst,hst2,ht,hs1,hs2,hje⟩:=S.text
 obtain ⟨oc,od,kV,doc,pm,an,cdv,ct,osl,rfl,lk,hcd⟩:=F.ex
 have I2:Inv X pins σ H { s1 with heap:=h2 }:=I.kept (t':=s1.toks) M.keeps
 have e0:=I2.env0.make C [.int i t] []
 have hr':Room (k + 1) (X.A.under (.builtin "type.__call__" ⟨[.ref C, .int i t],[]⟩)):=hr.make C [.int i t] []
 have KX:=I2.kIn
 have lim:=I2.nolimit
 have hlt2:s1.heap.objs.size ≤ h2.objs.size:=by
  obtain ⟨tt,ht',_⟩:=M.there
  exact Nat.le_trans he (Nat.le_of_lt (Heap.lt_size ht'))
 have hkind:∀ y ∈ [sf,pa].zip [Value.ref e,Value.int i t],(zae st).names.lookup y.1=some .local∨((zae st).names.lookup y.1=some .cell∧((cellsFrom (h2.objs.size + 1) (zae st).names []).lookup y.1).isSome=true):=fun ⟨n,v⟩ hy=>by
  rcases S.scope.par n (List.of_mem_zip hy).1 with q | q
  ·exact .inl q
  ·exact .inr ⟨q,PySem.W.cellsFrom_some _ _ _ (.inl q)⟩
 have hb':=hb { s1 with heap:=h2 } [.ref e, .int i t] KX rfl
 rw [List.append_nil] at hb'
 refine wpAny_call (codeAny_call_function hr'.depth (KX _ _ lk) rfl S.scope.co S.scope.gen rfl (PySem.W.codeRec_of KX hcd) (hb' _ _ _ _ ?_))
 refine wpAny_newFunctionEnv_cells S.scope.kind hkind fun env henv s3 x=>?_
 subst henv
 refine ⟨lim.keeps x.toInCall.keep,codeAny_func ?_⟩
 have J:=zgT (CX:=CX0) (E:=E0) (N:=[sf,pa]) (vs:=[.ref e, .int i]) S.scope hr'.hd e0 rfl (.cons rfl (.cons ⟨t,rfl⟩ .nil)) x
 have J1:=(Inv.zt1 (s0:=s1) J rfl rfl rfl hlt2 (fun b o h=>x.toInCall.keep _ _ (M.keeps _ _ h)) I.bs (Nat.le_trans I.ok.bsz (Nat.le_trans I.ok.above (Nat.le_of_lt I.lt))) I.stack).wish (fun _ _=>False)
 rw [hbody]
 obtain ⟨tt,htt,htn,_⟩:=M.there
 have hHe:H e=none:=I.hok.fresh he
 have heL:e ≠ h2.objs.size:=Nat.ne_of_lt (Heap.lt_size htt)
 have heF:e ∉ frs X.stack:=fun hb=>by
  rcases List.mem_cons.mp (I.zjD e hb) with z | z
  ·exact absurd (z ▸ I.lt) (Nat.not_lt.mpr he)
  ·exact I.nofs he z
 have cells0:∀ y c,(envOfC qual (zae st) h2.objs.size fI cdv).cells.lookup y=some c→c ≠ e:=fun y c h z=>by
  have a1:h2.objs.size < c:=x.above y c (PySem.mem_of_lookup h)
  have a2:=Heap.lt_size htt
  exact absurd (Nat.lt_trans a2 (z ▸ a1)) (Nat.lt_irrefl _)
 have JP:Inv _ [(e,zef C tt none)] _ H s3:=⟨J1.ok,J1.os,J1.bare,J1.base,J1.loc,J1.cell,J1.free,J1.freeC,fun p hp=>by
  rw [List.mem_singleton.mp (show p ∈ [(e,zef C tt none)] from hp)]
  exact ⟨x.toInCall.keep _ _ htt,hHe,heL,heF,fun v h=>by cases h⟩,J1.hok,J1.len⟩
 obtain ⟨pl,hpl⟩:=ht (envOfC qual (zae st) h2.objs.size fI cdv)
 refine wpAny_execs_cons (wpAny_Expr_any (MethodCall_ (pl:=pl) (zfW JP S.glob hmR ?_ S.dbg.1) hpl) JP.quiet (hs1 _))
 refine PySem.W.method_cls JP.kIn B.ga (PySem.W.cls_value JP.kIn B.reads B.find zpn ?_)
 have JQ:=JP.tok (s3.toks + 1)
 have hpa:=zhE (X:=({ (cxOf CX0 X.prog X.w X.K X.mg X.base [sf,pa] qual (zae st) fI cdv (X.A.under (.builtin "type.__call__" ⟨[.ref C, .int i t],[]⟩)) X.stack { s1 with heap:=h2 } H E0) with s₀:=s1 }:Cx).wish fun _ _=>False) (ziM (i:=0) (pos:=p1) rfl (.inl S.loc0) S.dbg.2.1 S.dbg.2.2.2.1) (zhE (hje _ rfl rfl) zl9 (hst2 _)) (hst _)
 refine PyProof.Rows.callWith_builtin1 (wpAny_mono (hpa cp _ _ _ _ (fun vs H1=>H1=H∧∃ y,vs=[.ref e, .str y]) JQ ⟨_,rfl,i,rfl,hi,fun y=>⟨rfl,y,rfl⟩⟩) (fun us s4 ⟨vs,H1,I4,r4,e4,y,ev⟩=>?_) fun _ _ z=>z.elim) (hst _) (by rw [hst2];rfl)
 subst e4 ev
 obtain ⟨u1,u2,rfl,ru1,ru2⟩:=vals2 r4
 obtain rfl:u1 = .ref e:=ru1
 obtain ⟨bm,N,nm,q,bs,sn,sub,ab,col,dd,k0,k1,k2,k3,k5,mN,oI,hC,hN,hni,hT,hfI,hfc⟩:=O.obj I.ok.mod.kin
 obtain ⟨h4,g4,d4,t4,o4⟩:=s4
 have he4:h4.get? e=some (zef C tt none):=(I4.pin _ (List.mem_append_right _ (List.mem_singleton.mpr rfl))).1
 refine zub PySem.F.excBase_ValueError (hT.keeps I4.bk) (I4.bk _ _ hC) he4 fun h5 t5 k5' he5=>?_
 have I5:Inv _ [] _ H1 ⟨h5,g4,d4,t4,o4⟩:=I4.zpW.turned (t':=t4) k5' hHe heL (.inr he) cells0 fun p hp=>absurd (show p ∈ ([] : List (Addr × Obj)) from hp) (by simp)
 have I5p:Inv _ [(e,zef C t5 none)] _ H1 ⟨h5,g4,d4,t4,o4⟩:=⟨I5.ok,I5.os,I5.bare,I5.base,I5.loc,I5.cell,I5.free,I5.freeC,fun p hp=>by
  rw [List.mem_singleton.mp (show p ∈ [(e,zef C t5 none)] from hp)]
  exact ⟨he5,hHe,heL,heF,fun v h=>by cases h⟩,I5.hok,I5.len⟩
 refine wpAny_execs_cons (plainObj_wpAny_Assign_Attribute (wpAny_mono (ziM (i:=1) (pos:=p3) rfl (.inl S.loc1) S.dbg.2.2.1 S.dbg.2.2.2.2 _ _ _ _ (fun v H'=>v = .int i∧H'=H1) I5p ⟨_,rfl,rfl,rfl⟩) (fun u6 s6 ⟨v6,H6,I6,r6,e6,e6'⟩ =>
  wpAny_mono (ziM (i:=0) (pos:=p2) rfl (.inl S.loc0) S.dbg.2.1 S.dbg.2.2.2.1 _ _ _ _ (fun v H'=>v = .ref e∧H'=H1) (e6' ▸ I6) ⟨_,rfl,rfl,rfl⟩) (fun u7 s7 ⟨v7,H7,I7,r7,e7,e7'⟩=>?_) fun _ _ z=>z.elim) fun _ _ z=>z.elim) (hs2 _))
 subst e6 e7 e7'
 obtain rfl:u7 = .ref e:=r7
 obtain ⟨h7,g7,d7,t7,o7⟩:=s7
 have he7:h7.get? e=some (zef C t5 none):=(I7.pin _ (List.mem_append_right _ (List.mem_singleton.mpr rfl))).1
 refine zvu I7.kIn (hT.keeps I7.bk) (I7.bk _ _ hC) he7 O.setA O.nof fun h8 tk8 dx hdx k8 he8 hns8=>?_
 have hlt:∀ b o,h7.get? b=some o→b ≠ dx:=fun b o h z=>absurd (z ▸ Heap.lt_size h) (Nat.not_lt.mpr hdx)
 have hltH:∀ b o,H7 b=some o→b ≠ dx:=fun b o h z=>absurd (z ▸ I7.hok.lt h) (Nat.not_lt.mpr hdx)
 have hok8:HOk X.prog X.w (upd H7 dx (.xd [(fld, .int i)])) h8:=fun b o hb=>by
  by_cases hbd:b=dx
  ·subst hbd
   rw [zaI] at hb
   cases hb
   refine ⟨_,hns8,fun f=>?_⟩
   by_cases hf:f=fld
   ·rw [if_pos hf,hf,List.lookup_cons_self];exact r6
   ·rw [if_neg hf,List.lookup_cons]
    have:(f == fld)=false:=by simpa using hf
    rw [this];exact True.intro
  ·rw [zat hbd] at hb
   refine (I7.hok b o hb).stay (fun c v hc q=>k8 c v ?_ q) (fun c hc=>by rw [zat (hltH c _ hc)];exact hc) fun c xs hc=>by rw [zat (hltH c _ hc)];exact hc
   rcases hc with z | z
   ·rintro rfl;rw [z,← z] at *;rw [hHe] at hb;cases hb
   ·rintro rfl;rw [hHe] at z;cases z
 have un8':Un (frs (envOfC qual (zae st) h2.objs.size fI cdv :: X.stack)) [e] H7 (upd H7 dx (.xd [(fld, .int i)])) h7 h8 :=
  ⟨fun b o h n _ hx=>k8 b o (fun z=>hx (by simp [z])) h,fun b o h n _ hx=>⟨o.slots,k8 b o (fun z=>hx (by simp [z])) h⟩,fun b o h n hx=>by rw [zat (hlt b o h)];exact n,
   fun b o h hx=>⟨o,k8 b o (fun z=>hx (by simp [z])) h⟩,fun b xs h=>by rw [zat (hltH b _ h)];exact h,fun b o u h=>by rw [zat (hltH b _ h)];exact h,fun b ps h=>⟨#[],by rw [zat (hltH b _ h),h];simp⟩⟩
 have I8:=I7.zpW.call (t':=tk8) (d':=d7) un8' hok8 I7.bare fun b hb=>by
  obtain rfl:b=e:=by simpa using hb
  exact ⟨.inr he,heL,cells0,fun p hp=>absurd (show p ∈ ([] : List (Addr × Obj)) from hp) (by simp)⟩
 refine wpAny_execs_nil ?_
 exact ⟨rfl,dx,t5,Nat.le_trans I7.sz hdx,fun z=>absurd (z ▸ Heap.lt_size he7) (Nat.not_lt.mpr hdx),I8.os,I8.bare,I8.base,hok8,he8⟩
end
end L2
namespace L2
open PySem PySem.Spec PyProof.Rows
section
variable {M:Model} {A:Around} {E:Value→Shared→Prop} {env:Env}
variable {nm q:Str} {C N:Addr} {bs bm:List Value} {hdct:Bool} {sn:List Str} {sub:List Value} {ab:Bool} {col:Option Bool} {dd:Option Addr} {k0 k1 k2 k3 k5:Option Value} {newId:String}
theorem zfs {s:Shared} {x:Sem Value} {Q:Flow→Shared→Prop} (hbase:bm.contains (.type "BaseException")=true) (hh:A.handled=none)
  (h:wpAny M A x (fun v s₁=>∃ e t dx,v = .ref e∧s₁.heap.get? C=some (excClassObj nm q C N bs bm hdct sn sub ab col dd k0 k1 k2 k3 k5 newId) ∧
   s₁.heap.get? e=some (zef C t dx)∧E (.ref e) s₁) E s) :
  wpAny M A (raiseStmt env (some x) none) Q E s:=by
 have hcB:(Value.ref C :: bm).contains (.type "BaseException")=true:=by rw [List.contains_cons,hbase,Bool.or_true]
 unfold raiseStmt
 refine wpAny_bind (wpAny_mono h (fun v s₁ h₁=>?_) fun _ _ x=>x)
 obtain ⟨e,t,dx,rfl,hC,he,hE⟩:=h₁
 obtain ⟨hp,g,d,tk,os⟩:=s₁
 repeat (first | with_reducible refine wpAny_loadPart_at he ?_ | with_reducible refine wpAny_loadPart_at hC ?_ | (with_reducible refine wpAny_isSubtype_exc hC ?_;rw [hcB]) | wp_step)
 exact wpAny_raiseNew_none hh hE
end
section
variable {prog:Program} {w:World} {A:Around} {E:Value→Shared→Prop} {s:Shared} {env:Env}
variable {nm q:Str} {C N:Addr} {bs bm bmB:List Value} {hdct:Bool} {sn:List Str} {sub:List Value} {ab:Bool} {col:Option Bool} {dd:Option Addr} {k0 k1 k2 k3 k5:Option Value} {B newId initId:String}
theorem zrw (F:ExcBaseFacts B newId initId bmB) {mN:Str→Option Value} {x:Str} {np cpos pos:Pos} {args:List Expr} {Q:Flow→Shared→Prop} {fI:Addr} {oI:Obj}
  (hbase:bm.contains (.type "BaseException")=true) (hh:A.handled=none) (hplain:(backTo cpos (starEach args env)).any (·.1)=false) (hi:mN "__init__" = some (.ref fI)) (hfc:oI.cls = .type "function")
  (h:wpAny (model prog w) A (eval (.Name x np) env) (fun f s₁=>f = .ref C∧wpAny (model prog w) A (evalArgs (.ref C) true (backTo cpos (starEach args env)) [])
   (fun a s₂=>a.kw=[]∧a.pos.length ≤ sizeLine∧s₂.heap.get? C=some (excClassObj nm q C N bs bm hdct sn sub ab col dd k0 k1 k2 k3 k5 newId)∧s₂.heap.Ns N mN∧OwnTail s₂.heap bmB bm∧s₂.heap.get? fI=some oI ∧
    ∀ h' e,Heap.MadeExcOf s₂.heap h' e (.ref C) a.pos→s₂.heap.objs.size ≤ e→wpAny (model prog w) (A.under (.builtin "type.__call__" ⟨.ref C :: a.pos,[]⟩)) (call (.ref fI) (.ref e :: a.pos))
     (fun r s'=>r = .none∧s'.heap.get? C=some (excClassObj nm q C N bs bm hdct sn sub ab col dd k0 k1 k2 k3 k5 newId)∧(∃ t dx,s'.heap.get? e=some (zef C t dx))∧E (.ref e) s') E { s₂ with heap:=h' }) E s₁) E s) :
  wpAny (model prog w) A (exec (.Raise (some (.Call (.Name x np) args [] cpos)) none pos) env) Q E s:=by
 rw [arm_exec_Raise]
 first
  | refine wpAny_bind (wpAny_standAt (zfs (C:=C) (nm:=nm) (q:=q) (N:=N) (bs:=bs) (bm:=bm) (hdct:=hdct) (sn:=sn) (sub:=sub) (ab:=ab) (col:=col) (dd:=dd) (k0:=k0) (k1:=k1) (k2:=k2) (k3:=k3) (k5:=k5) (newId:=newId) hbase hh (wpAny_bind (wpAny_mono (wpAny_Call_ofName (wpAny_mono h (fun f s₁ h₁=>?_) fun _ _ x=>x)) (fun v s₃ h₃=>wpAny_bind (wpAny_standAt (wpAny_pure h₃))) fun _ _ x=>x))))
  | (simp only [evalOpt,Option.map];refine wpAny_bind (wpAny_standAt (zfs (C:=C) (nm:=nm) (q:=q) (N:=N) (bs:=bs) (bm:=bm) (hdct:=hdct) (sn:=sn) (sub:=sub) (ab:=ab) (col:=col) (dd:=dd) (k0:=k0) (k1:=k1) (k2:=k2) (k3:=k3) (k5:=k5) (newId:=newId) hbase hh (wpAny_bind (wpAny_mono (wpAny_Call_ofName (wpAny_mono h (fun f s₁ h₁=>?_) fun _ _ x=>x)) (fun v s₃ h₃=>wpAny_bind (wpAny_standAt (wpAny_pure h₃))) fun _ _ x=>x)))))
  | (refine wpAny_bind (wpAny_standAt (zfs (C:=C) (nm:=nm) (q:=q) (N:=N) (bs:=bs) (bm:=bm) (hdct:=hdct) (sn:=sn) (sub:=sub) (ab:=ab) (col:=col) (dd:=dd) (k0:=k0) (k1:=k1) (k2:=k2) (k3:=k3) (k5:=k5) (newId:=newId) hbase hh ?_));refine wpAny_bind (wpAny_mono (wpAny_Call_ofName (wpAny_mono h (fun f s₁ h₁=>?_) fun _ _ x=>x)) (fun v s₃ h₃=>wpAny_bind (wpAny_standAt (wpAny_pure h₃))) fun _ _ x=>x))
 obtain ⟨rfl,h₁⟩:=h₁
 unfold callWith
 refine wpAny_bind (wpAny_holding (wpAny_mono h₁ (fun a s₂ h₂=>wpAny_bind (wpAny_standAt ?_)) fun _ _ x=>x))
 obtain ⟨apos,akw⟩:=a
 obtain ⟨hkw,hlen,hC,hn,T,hfI,h₂⟩:=h₂
 obtain rfl:akw=[]:=hkw
 obtain ⟨hp,g,d,tk,os⟩:=s₂
 simp only [hplain]
 refine wpAny_bind (wpAny_keeperOf_exc hC ?_)
 refine wpAny_bind (ztK (hrest:=hlen) F T hC hn hi hfI hfc fun h' e hm hz=>wpAny_mono (h₂ h' e hm hz) (fun r s' hr=>⟨hr.1,wpAny_bind (wpAny_holding (wpAny_point (wpAny_pure ?_)))⟩) fun _ _ x=>x)
 obtain ⟨_,a1,⟨t,dx,a2⟩,a3⟩:=hr
 exact ⟨e,t,dx,rfl,a1,a2,a3⟩
end
section
variable {X:Cx} {W:WX} {x:Str} {pos np cpos:Pos} {e:Expr} {t:TA}
def zsV (W:WX) (C:Addr) (fld:Str) (t:TA):TS:=fun _ σ H=>t σ H fun vs H1=>∃ i,vs=[.int i]∧i.natAbs.log2 < 1920∧∀ dx,H1 dx=none→W σ (.ref C) (some dx) (upd H1 dx (.xd [(fld, .int i)]))
theorem zpJ {C fI R:Addr} {fld qual rk sf pa:Str} {st:Stmt} {fd:FuncData} {k:Nat} (T:zhj X W) (hc:X.calm=true) (O:OwnI X.K C fI fld) (B:ztL X.K R) (F:Fun X.K "__init__" qual st fI fd) (S:znY st fld rk sf pa) (hb:Binds X.K fd [sf,pa] [])
  (hmR:X.mg rk=some (.ref R)) (hr:Room (k + 2) X.A) (hg:Gl X x) (hm:X.mg x=some (.ref C)) (ha:PA X [e] t)
  (hdb:(x == ("__debug__" : Str))=false:=by decide) (he:starEach [e] X.env=(false,eval e X.env) :: starEach [] X.env:=by rfl) (hpl:(backTo cpos (starEach [e] X.env)).any (·.1)=false:=by rfl) :
  PS X (.Raise (some (.Call (.Name x np) [e] [] cpos)) none pos) (zsV W C fld t):=by
 intro pins s σ H D I h
 obtain ⟨bm,N,nm,q,bs,sn,sub,ab,col,dd,k0,k1,k2,k3,k5,mN,oI,hC,hN,hni,hT,hfI,hfc⟩:=O.obj I.ok.mod.kin
 have hbase:bm.contains (.type "BaseException")=true:=hT.hasType (by decide)
 refine zrw (hdct:=true) (nm:=nm) (q:=q) (N:=N) (bs:=bs) (sn:=sn) (sub:=sub) (ab:=ab) (col:=col) (dd:=dd) (k0:=k0) (k1:=k1) (k2:=k2) (k3:=k3) (k5:=k5) PySem.F.excBase_ValueError hbase (I.ok.hd hc) hpl hni hfc (zfW I hg hm ⟨rfl,?_⟩ hdb)
 rw [he]
 refine Calls.evalArgs_plain ?_
 have ha':=ha cpos pins s σ H _ I h
 rw [he] at ha'
 refine thn ha' fun us s1 ⟨vs,H1,I1,r,i,ev,hl,q1⟩=>?_
 subst ev
 obtain ⟨u,rfl,tu,rfl⟩:=vals1 r
 refine ⟨rfl,by show 1 ≤ sizeLine;rw [sizeLine_eq];omega,I1.bk _ _ hC,hN.keeps I1.bk,hT.keeps I1.bk,I1.bk _ _ hfI,fun h' a M hz=>?_⟩
 refine wpAny_mono (ztl O B F S hb hmR hr hl I1 M hz) (fun r s' hp=>⟨hp.1,?_⟩) fun _ _ z=>z
 obtain ⟨_,dx,t1,hdx,hne,hos,hbare,hun,hok,hex⟩:=hp
 have I2:Inv X [] σ _ s':=(I1.zsQ hos hun hok hbare (fun b z=>absurd z (by simp))).zpW
 have hHa:upd H1 dx (.xd [(fld, .int i)]) a=none:=by rw [zat (Ne.symm hne)];exact I1.hok.fresh hz
 refine ⟨I2.bk _ _ hC,⟨t1,some dx,hex⟩,T.to _ _ ⟨σ,_,a, .ref C,some dx,rfl,I2,⟨I1.first T.ex M.new,hHa,_,_,hex,rfl,rfl,rfl,by simp, .inl ⟨rfl,rfl⟩⟩,q1 dx (I1.hok.fresh hdx)⟩⟩
end
end L2
namespace L2
open PySem PySem.Spec PyProof.Rows Builtin Builtin.ObjectAttr
structure XAt (K:PySem.W.Frag) (D:Addr) (fld:Str):Prop where
 ga:PySem.W.findIn K (.ref D) "__getattribute__" = some (some (.builtin "BaseException.__getattribute__"))
 gx:PySem.W.findIn K (.ref D) "__getattr__" = some none
 no:PySem.W.findIn K (.ref D) fld=some none
 be:PySem.W.subIn K (.ref D) (.type "BaseException")=some true
 hd:(PySem.W.clsIn K D).any (·.hasDict)=true
theorem znS:Slot "BaseException" "__getattribute__" "BaseException.__getattribute__" := .of (owner := "BaseException") (n := "__getattribute__") (by rw [typeLookup_type,builtinLookup_eq_fast];kernel_rfl) (by decide +kernel) (by decide +kernel) (by decide +kernel)
  (by first | exact .inl (by decide +kernel) | exact .inr (by decide +kernel)) (by rw [isSubtype_type];kernel_rfl)
section
variable {prog:Program} {w:World} {A:Around} {E:Value→Shared→Prop} {h:Heap} {g:Array GenState} {d:Drawn} {t:Nat} {os:OsState} {K:PySem.W.Frag} {a D dx:Addr} {o:Obj} {fld:Str} {mA:Str→Option Value} {v:Value} {vs:Array Value}
theorem zpm {tk:Tok} {Q:Fin→Shared→Prop} (X:K.In h) (C:XAt K D fld) (hx:h.get? a=some o) (hc:o.cls = .ref D) (hf:o.data = .fields vs) (hd:o.dict=some dx) (hn:h.Ns1 dx mA) (hv:mA fld=some v) (hq:Q (.done (.ret v)) ⟨h,g,d,t,os⟩) :
  wpAny (model prog w) A (Builtin.«object.__getattribute__» ⟨[.ref a, .str fld tk],[]⟩) Q E ⟨h,g,d,t,os⟩:=by
 have L1:∀ {A':Around} {E':Value→Shared→Prop} {tk':Nat} {Q':Option Value→Shared→Prop},Q' none ⟨h,g,d,tk',os⟩→wpAny (model prog w) A' (typeLookup (.ref D) fld) Q' E' ⟨h,g,d,tk',os⟩:=fun q=>(PySem.W.looks_findIn X C.no).at q
 repeat (any_goals (first | assumption | (with_reducible refine wpAny_loadPart_at hx ?_;rw [hc]) | with_reducible refine L1 ?_ | wp_step))
 rw [hf]
 obtain ⟨cd,hcl,hdd⟩:=PySem.W.any_some C.hd
 have L2':∀ {A':Around} {E':Value→Shared→Prop} {tk':Nat} {Q':ClassData→Shared→Prop},Q' cd ⟨h,g,d,tk',os⟩→wpAny (model prog w) A' (classData D) Q' E' ⟨h,g,d,tk',os⟩:=fun q=>(PySem.W.looks_clsIn X hcl).at q
 show wpAny _ _ (instanceDict a false) _ _ _
 unfold instanceDict
 refine wpAny_bind (wpAny_loadPart_at hx ?_)
 rw [hc]
 refine wpAny_bind (L2' ?_)
 rw [hdd,if_neg (by decide)]
 dsimp only
 rw [hd]
 refine wpAny_pure ?_
 unfold inDict
 repeat (first | (with_reducible refine wpAny_nsGet hn.ns ?_;rw [hv]) | wp_step)
 exact hq
theorem zvv {Q:Value→Shared→Prop} (X:K.In h) (C:XAt K D fld) (hx:h.get? a=some o) (hc:o.cls = .ref D) (hf:o.data = .fields vs) (hd:o.dict=some dx) (hn:h.Ns1 dx mA) (hv:mA fld=some v) (hh:handedOut v=pure v) (hq:Q v ⟨h,g,d,t + 1,os⟩) {expr:Bool} :
  wpAny (model prog w) A (getAttr (.ref a) fld expr) Q E ⟨h,g,d,t,os⟩:=by
 have f3:=znS.bind (.ref a)
 have hx0:(expr && onTheHeap (Value.builtin "BaseException.__getattribute__"))=false:=by cases expr <;> rfl
 have hx2:(Value.builtin "BaseException.__getattribute__" == Value.builtin "object.__getattribute__")=false:=by decide +kernel
 have hx1:(onTheHeap (Value.ref D) && Value.builtin "BaseException.__getattribute__" == Value.builtin "object.__getattribute__")=false:=by rw [hx2];rfl
 have hk:builtinKind "BaseException.__getattribute__" = some .slot:=by decide +kernel
 have hsplit:splitId "BaseException.__getattribute__" = some ("BaseException", "__getattribute__"):=by decide +kernel
 have L1:∀ {A':Around} {E':Value→Shared→Prop} {tk':Nat} {Q':Option Value→Shared→Prop},Q' (some (.builtin "BaseException.__getattribute__")) ⟨h,g,d,tk',os⟩→wpAny (model prog w) A' (typeLookup (.ref D) "__getattribute__") Q' E' ⟨h,g,d,tk',os⟩:=fun q=>(PySem.W.looks_findIn X C.ga).at q
 have L2':∀ {A':Around} {E':Value→Shared→Prop} {tk':Nat} {Q':Option Value→Shared→Prop},Q' none ⟨h,g,d,tk',os⟩→wpAny (model prog w) A' (typeLookup (.ref D) "__getattr__") Q' E' ⟨h,g,d,tk',os⟩:=fun q=>(PySem.W.looks_findIn X C.gx).at q
 have hI:PySem.W.Looks (model prog w) h (isInstance (.ref a) (.type "BaseException")) true:=by
  refine PySem.W.Looks.andThen (a := .ref D) ?_ (PySem.W.looks_subIn X C.be)
  have:=PySem.W.Looks.ld (M:=model prog w) (part:=some headPart) hx
  exact this.andThen (by rw [hc];exact .now)
 have call:∀ {tk':Nat} {A':Around} {R:Result→Shared→Prop} {tk:Tok},R (.ok (.ret v)) ⟨h,g,d,tk',os⟩→codeAny (model prog w) A' (.call (.builtin "BaseException.__getattribute__") ⟨[.ref a, .str fld tk],[]⟩) R ⟨h,g,d,tk',os⟩:=fun {tk' A' R tk} q =>
  codeAny_call_builtin znS.plain PySem.F.entry_bexc_ga (@PySem.W.check_slot (model prog w) _ _ ⟨h,g,d,tk',os⟩ "BaseException.__getattribute__" "BaseException" "__getattribute__" (.ref a) [.str fld tk] [] _ hk hsplit hI (PySem.F.args_bexc_ga (.ref a) (.str fld tk)) (zpm X C hx hc hf hd hn hv q))
 unfold getAttr getAttrBy
 repeat (any_goals (first | assumption | (with_reducible refine wpAny_loadPart_at hx ?_;rw [hc]) | with_reducible refine L1 ?_ | with_reducible refine L2' ?_ | wp_step))
 refine call ?_
 show wpAny _ _ (handedOut v) _ _ _
 rw [hh]
 exact wpAny_pure hq
end
section
variable {X:Cx} {x D dx:Addr} {oe:Obj} {fld:Str} {i:Nat} {n:Str} {np pos:Pos}
def tXat (x dx:Addr) (te:TE) (fld:Str):TE:=fun σ H Q=>te σ H fun v H1=>v = .ref x∧∃ ws v,H1 dx=some (.xd ws)∧ws.lookup fld=some v∧Q v H1
theorem zvz {o:Expr} {te:TE} (he:PE X o te) (hp:(x,oe) ∈ X.pn) (hc:oe.cls = .ref D) (hf:∃ vs,oe.data = .fields vs) (hd:oe.dict=some dx) (C:XAt X.K D fld)
  (hb:attributeBase o fld X.env (eval o X.env)=eval o X.env:=by rfl):PE X (.Attribute o fld pos) (tXat x dx te fld):=by
 intro pins s σ H Q I h
 refine zqy hb (thn (he pins s σ H _ I h) fun u s1 ⟨v0,H1,I1,rx,e0,ws,v,hd1,hl,q⟩=>?_)
 subst e0
 obtain rfl:u=Value.ref x:=rx
 obtain ⟨vs,hf⟩:=hf
 obtain ⟨mA,hn,r⟩:=I1.hok dx _ hd1
 obtain ⟨u,hu,ru⟩:=RelO.some_of (v:=v) (o:=mA fld) (by rw [← hl];exact r fld)
 have hx:=(I1.pin _ (List.mem_append_left _ hp)).1
 obtain ⟨h1,g1,d1,t1,o1⟩:=s1
 exact zvv I1.kIn C hx hc hf hd hn hu (PySem.W.handedOut_of (zoU ru)) ⟨v,H1,I1.tok _,ru,q⟩
end
section
variable {X:Cx} {C:Addr} {i:Nat} {n y:Str} {np pos:Pos} {b₀:Stmt} {suite:List Stmt} {rest:List ExceptHandler} {ts th:TH}
theorem zvV (t:Top1 X) (c:XC X.K C) (hg:Gl X y) (hm:X.mg y=some (.ref C)) (hN:X.N.Nodup) (hi:X.N[i]? = some n) (hl:X.env.scope.names.lookup n=some .local) (hs:∀ x oe,(∃ vs,oe.data = .fields vs)→PSs (X.zcX x oe) (b₀ :: suite) (ts x oe.cls oe.dict)) (hr:PH X rest th)
  (hdb:(y == ("__debug__" : Str))=false:=by decide):PH X (.ExceptHandler (some (.Name y np)) (some n) (b₀ :: suite) pos :: rest) (tH X.K C i ts th):=by
 intro s σ H D x cls dx I ex h
 obtain ⟨E,b,rfl,sb,h⟩:=h
 obtain ⟨oe,vs,hc,hdx,hd,he,hp⟩:=ex.pin I t
 have Ic:=I.zcX (x:=x) (oe:=oe) ⟨he,hp⟩
 refine wpAny_handleBy_cons (codeAny_handlers_test (zfW (X:=X.zcX x oe) (s:=s) Ic hg hm ?_ hdb)) (by intro q;cases q)
 obtain ⟨hh,g,d,tk,os⟩:=s
 refine zum c I.kIn he hc sb ?_
 cases b with
 | false =>
  exact hr _ σ H D x _ dx I ex (by simpa using h)
 | true =>
  rw [if_pos rfl] at h
  refine codeAny_handlers_suite_as (zg1 I t ex fun h1 I1 ex1=>?_)
  obtain ⟨oe1,vs1,hc1,hdx1,hd1,he1,hp1⟩:=ex1.pin I1 t
  have Ic1:=I1.zcX (x:=x) (oe:=oe1) ⟨he1,hp1⟩
  refine zig (X:=X.zcX x oe1) (v := .ref x) Ic1 hN hi (.inl hl) rfl (fun s2 I2=>?_) (.inr hl)
  rw [← hc1,← hdx1] at h
  refine wpAny_mono (hs x oe1 ⟨vs1,hd1⟩ [] s2 (σ.set i (some (.ref x))) H (D.drop i) I2 h) (fun f s3 q=>?_) fun _ _ z=>False.elim z
  cases f with
  | next =>
   obtain ⟨σ',H',I',q⟩:=q
   exact zkL (I'.uncaught I.ok) hN hi hl fun s' I''=>⟨_,H',I'',q⟩
  | brk =>
   obtain ⟨σ',H',I',q⟩:=q
   exact zkL (I'.uncaught I.ok) hN hi hl fun s' I''=>⟨_,H',I'',q⟩
  | cont =>
   obtain ⟨σ',H',I',q⟩:=q
   exact zkL (I'.uncaught I.ok) hN hi hl fun s' I''=>⟨_,H',I'',q⟩
  | ret u =>
   obtain ⟨v,σ',H',I',r,q⟩:=q
   exact zkL (I'.uncaught I.ok) hN hi hl fun s' I''=>⟨v,_,H',I'',r,q⟩
end
end L2
namespace V2
open PySem PySem.Spec PyProof.Rows L2
def OwnF (K:PySem.W.Frag) (mg:Str→Option Value) (x fld:Str):Prop:=∃ C fI R qual st fd rk sf pa,OwnI K C fI fld∧ztL K R∧Fun K "__init__" qual st fI fd∧znY st fld rk sf pa∧Binds K fd [sf,pa] []∧mg rk=some (.ref R)∧mg x=some (.ref C)∧PySem.W.nsIn K mainGlobals x=some (some (.ref C))
section
variable {K:PySem.W.Frag} {G H:Hp} {ι:List Addr} {Ω:Sto} {d:Addr}
theorem Wd.neG (w:Wd K G ι Ω H) (hd:H d=none) {a:Addr} {o:HO} (h:G a=some o):a ≠ d:=fun z=>by
 have:=w.sub _ _ h
 rw [z,hd] at this;cases this
theorem Wd.zrx (w:Wd K G ι Ω H) (hd:H d=none) (o:HO):Ext G ι (upd G d o) ι:=⟨fun a u h=>by rw [zat (w.neG hd h)];exact h,fun _ _ h=>h⟩
theorem Wd.up (w:Wd K G ι Ω H) (hd:H d=none) (o:HO):Wd K (upd G d o) ι Ω (upd H d o) where
 sub:=fun a u h=>by
  by_cases hz:a=d
  ·subst hz;rw [zaI] at h ⊢;exact h
  ·rw [zat hz] at h ⊢;exact w.sub _ _ h
 inj:=w.inj
 len:=w.len
 live:=fun a ha=>by
  obtain ⟨u,hu⟩:=w.live a ha
  exact ⟨u,by rw [zat (fun z=>by rw [z,hd] at hu;cases hu)];exact hu⟩
 cel:=fun k c a h1 h2=>by
  obtain ⟨u,hu⟩:=w.live a (List.mem_of_getElem? h2)
  have hne:a ≠ d:=fun z=>by rw [z,hd] at hu;cases hu
  exact (w.cel k c a h1 h2).mono (w.zrx hd o) (zat hne) (zat hne)
end
section
variable {X:Cx} {W:WX} {x fld:Str} {e:Expr} {np cpos pos:Pos} {fs:Ev→Mo (List A)}
@[simp] def zgA (x fld:Str) (f:Ev→Mo (List A)):MS:=fun ρ=>sM (f ρ) ρ fun as Ω=>match as with
 | [.int i]=>if i.natAbs.log2 < 1920 then some (.exc ⟨x,[(fld, .int i)]⟩,ρ,Ω) else none
 | _=>none
theorem zfR {k:Nat} (T:zhj X W) (hc:X.calm=true) (O:OwnF X.K X.mg x fld) (hr:Room (k + 2) X.A) (hg:Gl X x) (ha:VA X W [e] fs)
  (hdb:(x == ("__debug__" : Str))=false:=by decide) (he:starEach [e] X.env=(false,eval e X.env) :: starEach [] X.env:=by rfl) (hpl:(backTo cpos (starEach [e] X.env)).any (·.1)=false:=by rfl) :
  VS X W (.Raise (some (.Call (.Name x np) [e] [] cpos)) none pos) (zgA x fld fs):=by
 obtain ⟨C,fI,R,qual,st,fd,rk,sf,pa,O,B,F,S,hb,hmR,hm,hK⟩:=O
 obtain ⟨t,p,s⟩:=ha
 refine ⟨_,zpJ T hc O B F S hb hmR hr hg hm p hdb he hpl,fun G ι Ω H σ ρ D w r h=>?_⟩
 refine s G ι Ω H σ ρ _ w r (zcY.sM h r fun as Ω1 vs H1 G1 ι1 x1 w1 d1 h1=>?_)
 split at h1
 ·rename_i i
  split at h1
  ·rename_i hl
   obtain ⟨v,r',rfl,dv,dr⟩:=d1.zcn
   rw [zbh] at dr;subst dr
   simp only [Den] at dv;subst dv
   exact ⟨i,rfl,hl,fun dx hdx=>h1 σ _ _ ι1 (w1.zrx hdx _) (w1.up hdx _) (r.ext (x1.trans (w1.zrx hdx _))) _ _ ⟨⟨C,hK,rfl⟩, .inr ⟨dx,fld,i,rfl,rfl,zaI⟩⟩⟩
  ·exact False.elim h1
 ·exact False.elim h1
end
def exA (p d:Addr) (e:Exc):A:=match e.fs with
 | [(f, .int i)] => .exn p d f i
 | _ => .adr p
def zqZ (e:Exc) (d:Addr) (dx:Option Addr):Prop:=(e.fs=[]∧dx=none)∨(e.fs ≠ []∧dx=some d)
structure Cau (K:PySem.W.Frag) (oe:Obj) (d:Addr) (e:Exc):Prop where
 dat:∃ vs,oe.data = .fields vs
 cls:∃ E,PySem.W.nsIn K mainGlobals e.cls=some (some (.ref E))∧oe.cls = .ref E
 dic:zqZ e d oe.dict
def exP:A→Option Addr
 | .adr q=>some q
 | .exn q _ _ _=>some q
 | _=>none
@[simp] def zjR (p:Addr) (tb:Str→Option Bool) (tt:String→Option Bool) (as:List A):Mo A:=fun Ω=>match as with
 | [x,a]=>(match exP x with
  | some q=>gIsX p tb tt [.adr q,a] Ω
  | none=>none)
 | _=>none
theorem zje {X:Cx} {W:WX} {rs ns:List Str} {p:Addr} {oe:Obj} {n:Str} (hp:(p,oe) ∈ X.pn) (hT:XTab X.K rs ns) (he:∃ E,PySem.W.nsIn X.K mainGlobals n=some (some (.ref E))∧oe.cls = .ref E):zej X W (.builtin "isinstance") (zjR p (xtab rs ns n) (xtt rs n)):=by
 obtain ⟨t,h1,h2⟩:=zwd (W:=W) hp hT he
 refine ⟨t,h1,fun G ι Ω H σ xs as Q w d h=>?_⟩
 unfold zjR at h
 split at h
 ·rename_i x a
  split at h
  ·rename_i q hq
   refine h2 G ι Ω H σ xs [.adr q,a] Q w ?_ h
   obtain ⟨v1,v2,rfl,d1,d2⟩:=den2 d
   refine .cons ?_ (.cons d2 .nil)
   cases x with
   | adr q'=>cases hq;exact d1
   | exn q' d' f i=>cases hq;simp only [Den] at d1 ⊢;exact d1.1
   | _=>cases hq
  ·exact False.elim h
 ·exact False.elim h
def XFld (K:PySem.W.Frag) (rs:List Str) (fld:Str):Prop:=∀ n ∈ rs,∀ D,PySem.W.nsIn K mainGlobals n=some (some (.ref D))→XAt K D fld
@[simp] def gXAt (p d:Addr) (e:Exc) (rs:List Str) (fld:Str) (f:Ev→Mo A):Ev→Mo A:=fun ρ=>mb (f ρ) fun a=>match a with
 | .exn q d' g i=>if q=p∧d'=d∧e.fs ≠ []∧g=fld∧e.cls ∈ rs then ret (.int i) else stuck
 | _=>stuck
theorem zpV {X:Cx} {W:WX} {o:Expr} {f:Ev→Mo A} {p d:Addr} {oe:Obj} {e:Exc} {rs:List Str} {fld:Str} {pos:Pos} (ho:VE X W o f) (hp:(p,oe) ∈ X.pn) (c:Cau X.K oe d e) (hF:XFld X.K rs fld)
  (hb:attributeBase o fld X.env (eval o X.env)=eval o X.env:=by rfl):VE X W (.Attribute o fld pos) (gXAt p d e rs fld f):=by
 obtain ⟨t,h1,h2⟩:=ho
 obtain ⟨E,hE,hcE⟩:=c.cls
 by_cases hok:e.fs ≠ []∧e.cls ∈ rs
 ·have hd:oe.dict=some d:=by
   rcases c.dic with ⟨z,_⟩ | ⟨_,z⟩
   ·exact absurd z hok.1
   ·exact z
  refine ⟨_,zvz h1 hp hcE c.dat hd (hF _ hok.2 _ hE) hb,fun G ι Ω H σ ρ Q w r h=>h2 G ι Ω H σ ρ _ w r (Post.mb h fun a Ω1 v H1 G1 ι1 x1 w1 d1 hq=>?_)⟩
  split at hq
  ·rename_i q d' g i
   split at hq
   ·rename_i hz
    obtain ⟨rfl,rfl,_,rfl,_⟩:=hz
    simp only [Den] at d1
    exact ⟨d1.1,_, .int i,w1.sub _ _ d1.2,by rw [List.lookup_cons_self],hq _ H1 G1 ι1 (Ext.refl _ _) w1 (by simp only [Den])⟩
   ·exact False.elim hq
  ·exact False.elim hq
 ·refine ⟨fun σ H Q=>t σ H fun _ _=>False,fun pins s σ H Q I h=>?_,fun G ι Ω H σ ρ Q w r h=>h2 G ι Ω H σ ρ _ w r (Post.mb h fun a Ω1 v H1 G1 ι1 x1 w1 d1 hq=>?_)⟩
  ·exact zqy hb (thn (h1 pins s σ H _ I h) fun u s1 ⟨v0,H1,I1,rx,e0⟩=>e0.elim)
  ·split at hq
   ·split at hq
    ·rename_i hz
     exact hok ⟨hz.2.2.1,hz.2.2.2.2⟩
    ·exact hq
   ·exact hq
end V2
namespace M
open PySem V2
noncomputable def zbg:MS :=
 (sSeq (sAsg (vOp gIx (vVar 3) (cI 1)) (gN 4))
   (sSeq (sAsg (vOp (gAdd false) (vVar 1) (vVar 4)) (gN 1))
   (sIf (vOrT (zaB (vOp gLt (vVar 4) (cI 1))) (zaB (vOp gGt (vVar 1) (cI 1000000000))))
    (zgA "NoRow" "at" (zac (vVar 2) a0))
    sNx)))
noncomputable def zga:MS :=
 (sSeq (sAsg (cI 0) (gN 1))
  (sSeq (sFor (zgK (vVar 0)) (zbl 2 (zak (gN 2) (zak (gN 3) zbo))) zbg)
  (sRet (vVar 1))))
noncomputable def zgg:List A→Mo A:=fnF 5 zga
end M
namespace V2
open PySem PySem.Spec PyProof.Rows L2
def Itv (K:PySem.W.Frag) (a:Addr) (n:Nat):It :=
 ⟨fun i H=>∃ xs x,SqL K H a xs∧xs.length=n∧i < n∧xs[n - 1 - i]? = some x,fun i H x H'=>H'=H∧∀ xs,SqL K H a xs→xs[n - 1 - i]? = some x,fun i _=>n ≤ i⟩
theorem zqN {P:Program} {w:World} {K:PySem.W.Frag} {tg:Expr} (a it:Addr) (n:Nat):Turn P w K tg (Itv K a n) [it] it (fun i h=>i ≤ n∧h.IsRevIter it a ((n:Int) - 1 - (i:Int))) where
 mem:=by simp
 obj:=fun i h st b hb=>by
  have e:b=it:=by simpa using hb
  subst e
  obtain ⟨_,o,e,c,d⟩:=st
  exact ⟨o,e,fun v z=>by rw [d] at z;cases z⟩
 keep:=fun i h h' st k=>⟨st.1,st.2.at fun o e=>k it (by simp) o e⟩
 item:=by
  intro X hP hw hK hc i pins s σ H E I hf st hg
  subst hP hw hK
  obtain ⟨xs,x,hq,hn,hi,hx⟩:=hg
  obtain ⟨its,rv,p,hz⟩:=I.list hq
  obtain ⟨u,hu,ru⟩:=rv.get hx
  obtain ⟨f0,f1,f2,f3,f4,f5⟩:=hf it (by simp)
  have e1:(n:Int) - 1 - (i:Int)=((n - 1 - i:Nat):Int):=by omega
  have st1:=st.2
  rw [e1] at st1
  refine wpAny_pyNext_rev_item st1 p.isList (x:=u) (by simpa using hu) fun h' st' sb=>?_
  have I1:Inv X pins σ H { s with heap:=h' }:=I.turned (t':=s.toks) (fun b o hb e=>(sb.2 b hb).trans e) f0 f1 f3 f4 f5
  have e2:((n - 1 - i:Nat):Int) - 1=(n:Int) - 1 - ((i + 1:Nat):Int):=by omega
  rw [e2] at st'
  obtain ⟨o,e,c,d⟩:=id st'
  exact ⟨u,rfl,zrN (s:={ s with heap:=h' }) e c d (by decide) ⟨x,H,I1,ru,⟨rfl,fun ys hy=>by rw [I.zid hy hq];exact hx⟩,⟨hi,st'⟩,fun b hb=>(hf b hb).1⟩⟩
 done:=by
  intro X hP hw hK hc i pins s σ H E I hf st hg
  subst hP hw hK
  have hi:n ≤ i:=hg
  obtain ⟨f0,f1,f2,f3,f4,f5⟩:=hf it (by simp)
  have e1:(n:Int) - 1 - (i:Int) = -1:=by have:=st.1;omega
  have st1:=st.2
  rw [e1] at st1
  exact wpAny_pyNext_rev_end (I.ok.hd hc) st1 fun h' eb=>⟨rfl,I.turned (t':=s.toks) (fun b o hb e=>eb b o hb e) f0 f1 f3 f4 f5⟩
 self:=fun _ _ _ _ _ st h=>wpAny_pyIter_revIter st.2 h
section
variable {X:Cx} {W:WX} {pos:Pos}
theorem zu7 {tg:Expr} {p:Pos} {l:Expr} {tl:TE} (hg:Gl X "reversed") (hm:X.mg "reversed" = none) (hl:PE X l tl) (hs:starEach [l] X.env=[(false,eval l X.env)]:=by rfl) :
  PI X tg (.Call (.Name "reversed" p) [l] [] pos) (fun σ H R=>tl σ H fun x H1=>∃ a xs,x = .ref a∧SqL X.K H1 a xs∧R (Itv X.K a xs.length) H1):=by
 intro pins s σ H R I h
 refine wpAny_Call_Name_kw (zfM I hg hm boot_reversed ?_)
 refine PyProof.Rows.callWith_type1 (thn (zhE hl zl9 hs pos pins s σ H (fun vs H1=>match vs with
  | [x]=>∃ a xs,x=V.ref a∧SqL X.K H1 a xs∧R (Itv X.K a xs.length) H1
  | _=>False) I h) fun us s1 ⟨vs,H1,I1,r1,q1⟩=>?_) hs rfl
 match vs,q1 with
 | [x],q1 =>
 obtain ⟨a,xs,e1,hq,q⟩:=q1
 obtain ⟨u,rfl,ru⟩:=vals1 r1
 subst e1
 cases ru
 obtain ⟨its,rv,pl,hz⟩:=I1.list hq
 have hlen:=rv.length
 refine call_reversed_list pl.isList ?_
 have I2:Inv X pins σ H1 { s1 with heap:=s1.heap.push (revObj a ((its.toArray.size:Int) - 1)) }:=I1.kept (t':=s1.toks) fun b o e=>Heap.get?_push_of_some _ e
 have st:(s1.heap.push (revObj a ((its.toArray.size:Int) - 1))).IsRevIter s1.heap.objs.size a ((xs.length:Int) - 1 - ((0:Nat):Int)):=by
  have e:((its.toArray.size:Int) - 1)=(xs.length:Int) - 1 - ((0:Nat):Int):=by rw [List.size_toArray,← hlen];simp
  rw [← e]
  exact ⟨_,Heap.get?_push_size _ rfl,rfl,rfl⟩
 refine wpAny_pyIter_revIter (s:={ s1 with heap:=s1.heap.push (revObj a ((its.toArray.size:Int) - 1)) }) st ?_
 refine ⟨s1.heap.objs.size,[s1.heap.objs.size],_,_,H1,rfl,I2,zqN a _ xs.length,⟨Nat.zero_le _,st⟩,fun b hb=>?_,q⟩
 have e:b=s1.heap.objs.size:=by simpa using hb
 subst e
 exact I1.fpOk (Nat.le_refl _) (I1.hok.fresh (Nat.le_refl _))
def zh1 (a:A) (ds:List A):Src:=⟨ds.reverse,fun Ω=>zaG Ω a=some ds⟩
@[simp] def zs2 (f:Ev→Mo A):Ev→Mo Src:=fun ρ=>mb (f ρ) fun a Ω=>match zaG Ω a with
 | some ds=>some (.ok (zh1 a ds),Ω)
 | none=>none
theorem zsF {K:PySem.W.Frag} {G:Hp} {ι:List Addr} {p:Addr} {a:A} {ds:List A} (d:Den K G ι (.ref p) a):ItV K G ι (Itv K p ds.length) (zh1 a ds):=by
 have key:∀ G' ι' Ω' H',Ext G ι G' ι'→Wd K G' ι' Ω' H'→zaG Ω' a=some ds→∃ xs,SqL K H' p xs∧DenL K G' ι' xs ds:=fun G' ι' Ω' H' e w h=>by
  obtain ⟨q,xs,h1,h2,h3⟩:=zby w (d.ext e) h
  cases h1
  exact ⟨xs,h2,h3⟩
 refine ⟨fun G' ι' Ω' H' e w h i hi=>?_,fun G' ι' Ω' H' e w h i hi=>?_,fun G' ι' Ω' H' e w h i x H2 y hy hd=>?_⟩
 ·obtain ⟨xs,h2,h3⟩:=key G' ι' Ω' H' e w h
  have hi':i < ds.length:=by simpa [zh1] using hi
  have hl:ds.length - 1 - i < xs.length:=by rw [h3.length];omega
  exact ⟨xs,xs[ds.length - 1 - i],h2,h3.length,hi',List.getElem?_eq_getElem hl⟩
 ·show ds.length ≤ i
  simpa [zh1] using hi
 ·obtain ⟨xs,h2,h3⟩:=key G' ι' Ω' H' e w h
  obtain ⟨e1,e2⟩:=hd
  subst e1
  have hy':ds.reverse[i]? = some y:=hy
  have hi':i < ds.length:=by have:=(List.getElem?_eq_some_iff.mp hy').1;simpa using this
  rw [List.getElem?_reverse hi'] at hy'
  obtain ⟨z,q1,q2⟩:=h3.get hy'
  rw [e2 xs h2] at q1
  cases q1
  exact ⟨G',Ext.refl _ _,w,q2⟩
theorem zvm {tg l:Expr} {p:Pos} {fe:Ev→Mo A} (hg:Gl X "reversed") (hm:X.mg "reversed" = none) (h:VE X W l fe) (hs:starEach [l] X.env=[(false,eval l X.env)]:=by rfl):VI X W tg (.Call (.Name "reversed" p) [l] [] pos) (zs2 fe):=by
 obtain ⟨t,p,s⟩:=h
 refine ⟨_,zu7 hg hm p hs,fun G ι Ω H σ ρ R w r h=>?_⟩
 refine s G ι Ω H σ ρ _ w r (Post.mb h fun a Ω1 v H1 G1 ι1 x1 w1 d1 h1=>?_)
 cases e:zaG Ω1 a with
 | none=>simp only [e] at h1;exact False.elim h1
 | some ds =>
  simp only [e] at h1
  obtain ⟨q,xs,h2,h3,h4⟩:=zby w1 d1 e
  subst h2
  refine ⟨q,xs,rfl,h3,?_⟩
  rw [h4.length]
  exact h1 _ H1 G1 ι1 (Ext.refl _ _) w1 (zsF d1)
end
end V2
namespace V2
open PySem PySem.Spec PyProof.Rows L2
section
variable {X:Cx} {W:WX} {a b c d:Expr} {ta tb tc td:TE} {fa fb fc fd:Ev→Mo A} {pos:Pos}
def zuJ (_ j:Int):Prop:=0 < j∧j < 1152921504606846976
instance (i j:Int):Decidable (zuJ i j):=by unfold zuJ;infer_instance
end
end V2
namespace M
open PySem V2
noncomputable def zeB:MS :=
 (sSeq (zlQ (vTup (zac (vOp (gAdd false) (vVar 2) (cI 1)) (zac (vOp (gAdd false) (vVar 2) (vVar 4)) a0))) (vVar 1) (vVar 3))
   (sAsg (vOp (gAdd false) (vVar 2) (vVar 4)) (gN 2)))
noncomputable def ze9:MS :=
 (sSeq (sAsg zqH (gN 1))
  (sSeq (sAsg (cI 0) (gN 2))
  (sSeq (sFor (vSeq (vCl (zaq 1 zim) (zac (vVar 0) a0))) (zbl 2 (zak (gN 3) (zak (gN 4) zbo))) zeB)
  (sRet (vVar 1)))))
noncomputable def ze7:List A→Mo A:=fnF 5 ze9
end M
namespace PySem
section
variable {prog:Program} {w:World} {A:Around} {E:Value→Shared→Prop} {s:Shared}
theorem zfG {it l:Addr} {i:Nat} {items:Array Value} {x:Value} {Q:Value→Shared→Prop} (hit:s.heap.IsRevIter it l (i:Int)) (hl:s.heap.IsList l items) (hx:items[i]? = some x)
  (hQ:∀ h',h'.IsRevIter it l ((i:Int) - 1)→Heap.SameBut it s.heap h'→Q x { s with heap:=h' }):wpAny (model prog w) A (Builtin.SmallTypes.nextOf (.ref it)) Q E s:=by
 obtain ⟨o,ho,hc,hd⟩:=id hit
 obtain ⟨ol,hol,_,nl,hdl⟩:=hl
 unfold Builtin.SmallTypes.nextOf
 refine wpAny_bind (wpAny_callSpecial?_slot (name:=Str.ofString "__next__") hit.typeIs F.slot_lri_next
  (wpAny_call_entry F.slot_lri_next hit.typeIs F.entry_lri_next ?_ (F.args_lri_next_1 _)))
 unfold Builtin.«list_reverseiterator.__next__»
 refine wpAny_bind (wpAny_of_eq (a:=(Value.ref it,[])) rfl ?_)
 try dsimp only
 refine wpAny_bind (wpAny_field ho hd (x:=rawInt (i:Int)) rfl ?_)
 show wpAny _ _ (if (i:Int) < 0 then _ else _) _ _ s
 rw [if_neg (by omega)]
 show wpAny _ _ (field (.ref it) 0 >>= _) _ _ s
 refine wpAny_bind (wpAny_field ho hd (x := .ref l) rfl ?_)
 show wpAny _ _ (seqItems? (.ref l) >>= _) _ _ s
 refine wpAny_bind (wpAny_seqItems hol hdl ?_)
 simp only [Int.toNat_natCast,hx]
 refine wpAny_bind (wpAny_setField ho hd (by simp) ?_)
 refine wpAny_pure ⟨_,rfl,wpAny_pure (hQ _ ?_ (Heap.SameBut.update ..))⟩
 exact ⟨_,Heap.get?_update_self _ ho (Obj.isFreed_of_fields (Obj.data_mapFields hd _)),(Obj.cls_mapFields ..).trans hc,by
  rw [Obj.data_mapFields hd];simp⟩
theorem zgo {it l:Addr} {Q:Value→Shared→Prop} (hh:A.handled=none) (hit:s.heap.IsRevIter it l (-1))
  (hE:∀ h' e,Heap.ExtBut it s.heap h'→(∃ o,h'.get? e=some o∧o.cls = .type "StopIteration")→E (.ref e) { s with heap:=h' }):wpAny (model prog w) A (Builtin.SmallTypes.nextOf (.ref it)) Q E s:=by
 obtain ⟨o,ho,hc,hd⟩:=id hit
 unfold Builtin.SmallTypes.nextOf
 refine wpAny_bind (wpAny_callSpecial?_slot (name:=Str.ofString "__next__") hit.typeIs F.slot_lri_next
  (wpAny_call_entry F.slot_lri_next hit.typeIs F.entry_lri_next ?_ (F.args_lri_next_1 _)))
 unfold Builtin.«list_reverseiterator.__next__»
 refine wpAny_bind (wpAny_of_eq (a:=(Value.ref it,[])) rfl ?_)
 try dsimp only
 refine wpAny_bind (wpAny_field ho hd (x:=rawInt (-1)) rfl ?_)
 show wpAny _ _ (if (-1:Int) < 0 then _ else _) _ _ s
 rw [if_pos (by decide)]
 refine wpAny_bind (wpAny_rule ?_)
 refine wpAny_bind ?_
 show wpAny _ _ (newExc (.type "StopIteration") [] >>= _) _ _ _
 refine wpAny_bind ?_
 simp only [newExc,newTuple]
 refine wpAny_bind (wpAny_newObj_type ?_ (by size_fits))
 refine wpAny_bind (m:=firstArgMember _ _) (wpAny_of_eq (a:=Value.none) (by first | rfl | (simp only [firstArgMember];rfl)) ?_)
 refine wpAny_newObj_type ?_ (by size_fits)
 simp only [raiseNew]
 refine wpAny_bind (wpAny_handled ?_)
 first | rw [show A.in1.handled=none from hh] | rw [hh]
 refine wpAny_bind (wpAny_pure (wpAny_throw ?_))
 exact hE _ _ (((Heap.ExtBut.refl _ _).push _).push _) ⟨_,Heap.get?_push_size _ rfl,rfl⟩
end
theorem Draws.listRev {prog:Program} {w:World} {A:Around} (hh:A.handled=none) (it l:Addr) (hne:l ≠ it) (items:Array Value) :
  Draws prog w A it [it,l] items.size (fun i v=>items[items.size - 1 - i]? = some v) (fun i h=>i ≤ items.size∧h.IsRevIter it l ((items.size:Int) - 1 - (i:Int))∧h.IsList l items) where
 live:=fun _ _ st=>let ⟨o,ho,_⟩:=st.2.1; ⟨o,ho⟩
 frame:=fun _ _ _ st hk=>⟨st.1,st.2.1.at fun o e=>hk it (by simp) o e,st.2.2.at fun o e=>hk l (by simp) o e⟩
 item:=fun i s Q E hi st hQ=>by
  have e:(items.size:Int) - 1 - (i:Int)=((items.size - 1 - i:Nat):Int):=by omega
  have hit:=st.2.1
  rw [e] at hit
  have hx:items[items.size - 1 - i]? = some (items[items.size - 1 - i]'(by omega)):=Array.getElem?_eq_getElem (by omega)
  refine zfG hit st.2.2 hx fun h' hit' hs'=>?_
  have e2:((items.size - 1 - i:Nat):Int) - 1=(items.size:Int) - 1 - ((i + 1:Nat):Int):=by omega
  rw [e2] at hit'
  exact hQ _ h' s.toks hx ⟨hi,hit',st.2.2.extBut hs'.extBut hne⟩ hs'
 done:=fun s Q E st hE=>by
  have e:(items.size:Int) - 1 - (items.size:Int) = -1:=by omega
  have hit:=st.2.1
  rw [e] at hit
  exact zgo hh hit hE
set_option maxRecDepth 100000
theorem zgq (r l:Addr) (i:Int) :
  Meets (Builtin.«enumerate.__new__» ⟨[.type "enumerate", .ref r],[]⟩) (fun _ R s=>s.heap.get? r=some (revObj l i) ∧
   R (.ok (.ret (.ref s.heap.objs.size))) { s with heap:=s.heap.push { cls := .type "enumerate",data := .fields #[.none, .bool false, .ref r,rawInt 0, .none, .none] } }) :=
 .of_wp fun prog w A R s h=>by
  obtain ⟨hp,g,d,tk,os⟩:=s;obtain ⟨hl,h⟩:=h
  have hsub:=sub_enumerate
  have hL:Heap.IsRevIter (Shared.heap ⟨hp,g,d,tk,os⟩) r l i:=⟨_,hl,rfl,rfl⟩
  wp_walk using AutoSeq1.wpAny_loadPart' hl
  refine wpAny_stack_any fun st=>wpAny_pure ?_
  split
  ·rename_i c _ _ _ _ _
   cases (c == Value.type "enumerate")
   ·wp_walk using AutoSeq1.wpAny_loadPart' hl,wpAny_pyIter_revIter hL
    exact ⟨_,rfl,h⟩
   ·wp_walk using AutoSeq1.wpAny_loadPart' hl,wpAny_pyIter_revIter hL
    exact ⟨_,rfl,h⟩
  ·wp_walk using AutoSeq1.wpAny_loadPart' hl,wpAny_pyIter_revIter hL
   exact ⟨_,rfl,h⟩
section
variable {prog:Program} {w:World} {A:Around} {E:Value→Shared→Prop} {s:Shared}
theorem zgY {r l:Addr} {i:Int} {Q:Value→Shared→Prop} (hl:s.heap.get? r=some (revObj l i))
  (h:IsEnum (s.heap.push { cls := .type "enumerate",data := .fields #[.none, .bool false, .ref r,rawInt 0, .none, .none] }) s.heap.objs.size r 0 .none →
   Q (.ref s.heap.objs.size) { s with heap:=s.heap.push { cls := .type "enumerate",data := .fields #[.none, .bool false, .ref r,rawInt 0, .none, .none] } }) :
  wpAny (model prog w) A (call (.type "enumerate") [.ref r]) Q E s:=by
 refine callType_new F.called_enumerate (by decide) (F.typeCall_enumerate_1 _) (F.newCall_enumerate_1 _) (fun obj=>F.args_object_init_2 obj _) F.entry_enumerate_new
  (zgq r l i) ⟨hl,?_⟩
 have he:IsEnum (s.heap.push { cls := .type "enumerate",data := .fields #[.none, .bool false, .ref r,rawInt 0, .none, .none] }) s.heap.objs.size r 0 .none:=Heap.get?_push_size _ rfl
 exact ⟨⟨_,he,rfl⟩,h he⟩
end
end PySem
namespace V2
open PySem PySem.Spec PyProof.Rows L2
def updT:Hp→List Addr→List (List V)→Hp
 | H,a :: as,t :: ts=>updT (upd H a (.tup t)) as ts
 | H,[],_=>H
 | H,_ :: _,[]=>H
theorem zrZ {H:Hp} {a b:Addr} {o u:HO} (h:a ≠ b):upd (upd H a o) b u=upd (upd H b u) a o:=by
 funext c
 by_cases h1:c=a
 ·subst h1;rw [zat h,zaI,zaI]
 ·by_cases h2:c=b
  ·subst h2;rw [zaI,zat h1,zaI]
  ·rw [zat h2,zat h1,zat h1,zat h2]
theorem znM {l:Addr} {o:HO}:∀ (as:List Addr) (ts:List (List V)) (H:Hp),l ∉ as→updT (upd H l o) as ts=upd (updT H as ts) l o
 | [],ts,H,_=>by cases ts <;> rfl
 | a :: as,[],H,_=>rfl
 | a :: as,t :: ts,H,h=>by
  have hla:l ≠ a:=fun e=>h (by rw [e];exact List.mem_cons_self ..)
  show updT (upd (upd H l o) a (.tup t)) as ts=upd (updT (upd H a (.tup t)) as ts) l o
  rw [zrZ hla]
  exact znM as ts _ fun e=>h (List.mem_cons_of_mem _ e)
theorem zvP {P:Program} {w:World} {k:Key} {u:Value} (h:(zbi P w).is k u=true):RelV (kV k) u:=by
 rcases zbn (k:=k) (v:=u) h with ⟨i,t,q1,q2⟩ | ⟨x,t,q1,q2⟩
 ·subst q1;exact ⟨t,q2⟩
 ·subst q1;exact ⟨t,q2⟩
section
variable {X:Cx} {W:WX}
theorem zjH {pins:List (Addr × Obj)} {σ:L2.St} {s2 s3:Shared} {H0:Hp} (I2:Inv X pins σ H0 s2):∀ (as:List Addr) (ts:List (List V)) (H:Hp),Inv X pins σ H s3→as.length=ts.length→as.Nodup→(∀ a ∈ as,s2.heap.objs.size ≤ a∧H a=none) →
  (∀ (j:Nat) (a:Addr) (t:List V),as[j]? = some a→ts[j]? = some t→t.length ≤ sizeLine∧∃ its n,Vals t its∧s3.heap.get? a=some { cls := .type "tuple",data := .seq its.toArray n })→Inv X pins σ (updT H as ts) s3
 | [],[],H,I,_,_,_,_=>I
 | [],_ :: _,H,I,hl,_,_,_=>by simp at hl
 | _ :: _,[],H,I,hl,_,_,_=>by simp at hl
 | a :: as,t :: ts,H,I,hl,hn,hb,ho=>by
  obtain ⟨h1,h2⟩:=hb a (List.mem_cons_self ..)
  obtain ⟨hz,its,n,rv,e⟩:=ho 0 a t rfl rfl
  have hok:HOk X.prog X.w (upd H a (.tup t)) s3.heap:=by
   refine fun b o q=>?_
   by_cases eb:b=a
   ·subst eb
    rw [zaI] at q
    cases q
    exact ⟨hz,its,rv,⟨_,e,rfl,_,rfl⟩⟩
   ·rw [zat eb] at q
    exact (I.hok b o q).stay (fun c v _ z=>z) (fun c z=>by rw [zat (zaW z h2)];exact z) fun c xs z=>by rw [zat (zaW z h2)];exact z
  have fp:FpOk X pins H a:=I2.fpOk h1 h2
  have h0:X.s₀.heap.get? a=none:=by
   cases q:X.s₀.heap.get? a with
   | none=>rfl
   | some ob=>exact absurd (Nat.lt_of_lt_of_le (Heap.lt_size q) (Nat.le_trans I2.sz h1)) (Nat.lt_irrefl _)
  have I':=Inv.zsq I h2 h0 fp.2.1 fp.2.2.2.2.1 fp.2.2.2.2.2 hok
  rw [List.nodup_cons] at hn
  exact zjH I2 as ts _ I' (by simpa using hl) hn.2 (fun b hb'=>⟨(hb b (List.mem_cons_of_mem _ hb')).1,by rw [zat (fun z=>hn.1 (by rw [← z];exact hb'))];exact (hb b (List.mem_cons_of_mem _ hb')).2⟩) (fun j b u e1 e2=>ho (j + 1) b u e1 e2)
theorem zjK {α β:Type} {F:α→β→Prop}:∀ {l₁:List α} {l₂:List β},Paired F l₁ l₂→∀ {j:Nat} {a:α},l₁[j]? = some a→∃ b,l₂[j]? = some b∧F a b
 | _,_, .nil,j,a,h=>by simp at h
 | _,_, .cons r _,0,a,h=>by cases h;exact ⟨_,rfl,r⟩
 | _,_, .cons _ rs,j + 1,a,h=>by obtain ⟨b,q,f⟩:=zjK rs (j:=j) (by simpa using h);exact ⟨b,by simpa using q,f⟩
theorem zfC:∀ as:List Addr,Vals (as.map V.ref) (as.map Value.ref)
 | [] => .nil
 | a :: as => .cons rfl (zfC as)
theorem zlG {o:Expr} {td:TE} {p1 apos q1 q2:Pos} (hc:X.calm=true) (hgl:Gl X "list") (hml:X.mg "list" = none) (ho:PE X o td)
  (hs:starEach [.Call (.Attribute o "items" apos) [] [] q2] X.env=[(false,eval (.Call (.Attribute o "items" apos) [] [] q2) X.env)]:=by rfl)
  (hbase:attributeBase o "items" X.env (eval o X.env)=eval o X.env:=by rfl) (hline:(apos.endLine == q2.line)=true:=by rfl) :
  PE X (.Call (.Name "list" p1) [.Call (.Attribute o "items" apos) [] [] q2] [] q1) (fun σ H Q=>td σ H fun x H1=>∃ a kvs,x = .ref a∧H1 a=some (.dK kvs) ∧
   ∀ (as:List Addr) (l:Addr),as.length=kvs.length→as.Nodup→l ∉ as→(∀ b ∈ as,H1 b=none)→H1 l=none→Q (.ref l) (upd (updT H1 as (kvs.map fun kv=>[kV kv.1,kv.2])) l (.lst (as.map V.ref)))):=by
 intro pins s σ H Q I h
 refine wpAny_Call_Name_kw (zfM I hgl hml PyProof.Rows.boot_list ?_)
 refine PyProof.Rows.callWith_type1 ?_ hs rfl
 rw [hs]
 show wpAny _ _ (spliced ((false,eval (.Call (.Attribute o "items" apos) [] [] q2) X.env) :: [])) _ _ s
 refine Calls.spliced_cons ?_
 refine wpAny_Call_method0_late hbase hline (thn (ho pins s σ H _ I h) fun v s1 ⟨x,H1,I1,r1,q1⟩=>?_)
 obtain ⟨a,kvs,rfl,hH,q⟩:=q1
 cases r1
 obtain ⟨h1,h2,hsm⟩:=zo2 I1 (.inl ⟨kvs, .inl hH⟩)
 obtain ⟨z,_,vs,rel,dd⟩:=zpR I1.hok hH
 refine ⟨"dict", "dict.items",PySem.F.plainAttrs_dict,PySem.F.slot_dict_items,PySem.F.type_dict_items,h1,h2,Calls.callWith_builtin rfl (PySem.evalArgs_none ?_)⟩
 refine call_meetsIn PySem.F.slot_dict_items dd.typeIs PySem.F.entry_dict_items (PySem.F.args_dict_items_1 _) (meets_dict_items (zbi X.prog X.w) a hsm) ⟨⟨vs,dd⟩,?_⟩
 refine Calls.spliced_nil ?_
 have I2:Inv X pins σ H1 { s1 with heap:=s1.heap.push { cls := .type "dict_items",data := .fields #[.ref a] } }:=I1.kept (t':=s1.toks) fun b o e=>Heap.get?_push_of_some _ e
 obtain ⟨ep,hat⟩:=dd.dictAt
 have hvl:kvs.length=vs.length:=rel.length
 refine PySem.W.kdx_call (knd:=zbi X.prog X.w) (kvs:=vs) (ep:=ep) (s:={ s1 with heap:=s1.heap.push { cls := .type "dict_items",data := .fields #[.ref a] } }) (I2.ok.hd hc) ⟨_,Heap.get?_push_size _ rfl,rfl,rfl⟩ (hat.push _) (by omega) fun h' tk acc c as hk hS hl hG hacc=>?_
 generalize hs2:({ s1 with heap:=s1.heap.push { cls := .type "dict_items",data := .fields #[.ref a] } }:Shared)=s2 at I2 hk hS hG
 have hnd:as.Nodup:=hG.rise.imp fun h=>Nat.ne_of_lt h
 have hla:s2.heap.objs.size ∉ as:=fun z=>absurd (hG.above _ z) (Nat.lt_irrefl _)
 have hge:∀ b ∈ as,s2.heap.objs.size ≤ b:=fun b hb=>Nat.le_of_lt (hG.above b hb)
 have hsz:as.length ≤ sizeLine:=by omega
 have I3:Inv X pins σ (upd H1 s2.heap.objs.size (.lst (as.map V.ref))) { s2 with heap:=h',toks:=tk }:=I2.laid (t':=tk) (o := .lst (as.map V.ref)) hk (Nat.le_refl _) ⟨by rw [List.length_map];exact hsz,as.map Value.ref,c,zfC as,by rw [← hacc];exact hS⟩
 have I4:=zjH I2 as (kvs.map fun kv=>[kV kv.1,kv.2]) _ I3 (by simp;omega) hnd (fun b hb=>⟨hge b hb,by rw [zat (fun z=>hla (by rw [← z];exact hb))];exact I2.hok.fresh (hge b hb)⟩) (fun j b t e1 e2=>by
  obtain ⟨key,k,x,g1,g2,g3⟩:=hG.pairs j b e1
  rw [List.getElem?_map] at e2
  cases g4:kvs[j]? with
  | none=>rw [g4] at e2;cases e2
  | some kv =>
   rw [g4] at e2
   cases e2
   obtain ⟨kv2,g5,g6,g7⟩:=zjK rel g4
   rw [g1] at g5
   cases g5
   refine ⟨by show 2 ≤ sizeLine;decide,[key,x],0, .cons (by rw [g6];exact zvP g2) (.cons g7 .nil),g3⟩)
 rw [znM as _ H1 hla] at I4
 exact ⟨.ref s2.heap.objs.size,_,I4,rfl,q as _ (by omega) hnd hla (fun b hb=>I2.hok.fresh (hge b hb)) (I2.hok.fresh (Nat.le_refl _))⟩
end
def kA:Key→A
 | .inl i => .int i
 | .inr s => .str s
theorem zsd {K:PySem.W.Frag} {G:Hp} {ι:List Addr} (k:Key):Den K G ι (kV k) (kA k):=by cases k <;> simp only [kV,kA,Den]
def itA (kv:Key × A):A := .tup [kA kv.1,kv.2]
section
variable {K:PySem.W.Frag}
theorem zqo {Ω:Sto}:∀ (as:List Addr) (ws:List (Key × V)) (kvs:List (Key × A)) (G H:Hp) (ι:List Addr),Wd K G ι Ω H→as.length=ws.length→as.Nodup→(∀ b ∈ as,H b=none)→ws.map (·.1)=kvs.map (·.1)→DenL K G ι (ws.map (·.2)) (kvs.map (·.2)) →
  ∃ G',Ext G ι G' ι∧Wd K G' ι Ω (updT H as (ws.map fun kv=>[kV kv.1,kv.2]))∧DenL K G' ι (as.map V.ref) (kvs.map itA)
 | [],[],[],G,H,ι,w,_,_,_,_,_=>⟨G,Ext.refl _ _,w,by rw [List.map_nil,List.map_nil,zbh]⟩
 | [],[],_ :: _,_,_,_,_,_,_,_,h,_=>by simp at h
 | [],_ :: _,_,_,_,_,_,h,_,_,_,_=>by simp at h
 | _ :: _,[],_,_,_,_,_,h,_,_,_,_=>by simp at h
 | _ :: _,_ :: _,[],_,_,_,_,_,_,_,h,_=>by simp at h
 | a :: as,wv :: ws,kv :: kvs,G,H,ι,w,hl,hn,hb,hk,d=>by
  rw [List.map_cons,List.map_cons] at d hk
  obtain ⟨x,r,hx,d1,d2⟩:=d.zcn
  obtain ⟨rfl,rfl⟩:=List.cons.inj hx
  obtain ⟨hk1,hk2⟩:=List.cons.inj hk
  rw [List.nodup_cons] at hn
  have ha:=hb a (List.mem_cons_self ..)
  have e0:=w.zrx ha (.tup [kV wv.1,wv.2])
  have w':=w.up ha (.tup [kV wv.1,wv.2])
  obtain ⟨G',e1,w1,d3⟩:=zqo as ws kvs _ _ ι w' (by simpa using hl) hn.2 (fun b hb'=>by rw [zat (fun z=>hn.1 (by rw [← z];exact hb'))];exact hb b (List.mem_cons_of_mem _ hb')) hk2 (d2.ext e0)
  refine ⟨G',e0.trans e1,w1,?_⟩
  rw [List.map_cons,List.map_cons]
  refine .cons ?_ d3
  simp only [itA,Den]
  refine ⟨a,[kV wv.1,wv.2],rfl,e1.same _ _ zaI, .cons (by rw [hk1];exact zsd _) (.cons (d1.ext (e0.trans e1)) (by rw [zbh]))⟩
end
section
variable {X:Cx} {W:WX}
@[simp] def zqb (c:Bool) (f:Ev→Mo A):Ev→Mo A:=fun ρ=>mb (f ρ) fun a Ω=>match ze8 Ω a with
 | some (_,kvs)=>mkL c (kvs.map itA) Ω
 | none=>none
theorem zlU {o:Expr} {f:Ev→Mo A} {p1 apos q1 q2:Pos} (c:Bool) (hc:X.calm=true) (hml:X.mg "list" = none) (hgl:Gl X "list") (ho:VE X W o f)
  (hs:starEach [.Call (.Attribute o "items" apos) [] [] q2] X.env=[(false,eval (.Call (.Attribute o "items" apos) [] [] q2) X.env)]:=by rfl)
  (hbase:attributeBase o "items" X.env (eval o X.env)=eval o X.env:=by rfl) (hline:(apos.endLine == q2.line)=true:=by rfl) :
  VE X W (.Call (.Name "list" p1) [.Call (.Attribute o "items" apos) [] [] q2] [] q1) (zqb c f):=by
 obtain ⟨t,p,s⟩:=ho
 refine ⟨_,zlG hc hgl hml p hs hbase hline,fun G ι Ω H σ ρ Q w r h=>?_⟩
 refine s G ι Ω H σ ρ _ w r (Post.mb h fun a Ω1 v H1 G1 ι1 x1 w1 d1 h1=>?_)
 split at h1
 ·rename_i k kvs e
  obtain ⟨p,ws,rfl,hk,g,q1,q2,q3⟩:=zeu w1 d1 e
  refine ⟨p,ws,rfl,q1,fun as l hl hn hla hb hl0=>?_⟩
  obtain ⟨G',e1,w2,d2⟩:=zqo as ws kvs G1 H1 ι1 w1 hl hn hb q2 q3
  have hne:updT H1 as (ws.map fun kv=>[kV kv.1,kv.2]) l=none:=by
   have:∀ (as:List Addr) (ts:List (List V)) (H:Hp),l ∉ as→updT H as ts l=H l:=by
    intro as
    induction as with
    | nil=>intro ts H _;cases ts <;> rfl
    | cons b as ih =>
     intro ts H hla
     cases ts with
     | nil=>rfl
     | cons t ts =>
      show updT (upd H b (.tup t)) as ts l=H l
      rw [ih ts _ fun z=>hla (List.mem_cons_of_mem _ z),zat fun z=>hla (by rw [z];exact List.mem_cons_self ..)]
   rw [this as _ H1 hla];exact hl0
  exact zgP w2 hne d2 (h1.ext e1)
 ·exact False.elim h1
end
end V2
namespace V2
open PySem PySem.Spec PyProof.Rows L2
section
variable {X:Cx} {W:WX}
theorem zlS {P:Program} {w:World}:∀ (ks:List Key) (us:List Value),us.length=ks.length→(∀ (i:Nat) (v:Value),us[i]? = some v→∃ k,ks[i]? = some k∧(zbi P w).is k v=true)→Vals (ks.map kV) us
 | [],[],_,_ => .nil
 | [],_ :: _,h,_=>by simp at h
 | _ :: _,[],h,_=>by simp at h
 | k :: ks,u :: us,h,q=>by
  obtain ⟨k',e1,e2⟩:=q 0 u rfl
  cases e1
  exact .cons (zvP e2) (zlS (P:=P) (w:=w) ks us (by simpa using h) fun i v hv=>by simpa using q (i + 1) v (by simpa using hv))
theorem zm2 {o:Expr} {td:TE} {p1 apos q1 q2:Pos} (hc:X.calm=true) (hgl:Gl X "list") (hml:X.mg "list" = none) (ho:PE X o td)
  (hs:starEach [.Call (.Attribute o "keys" apos) [] [] q2] X.env=[(false,eval (.Call (.Attribute o "keys" apos) [] [] q2) X.env)]:=by rfl)
  (hbase:attributeBase o "keys" X.env (eval o X.env)=eval o X.env:=by rfl) (hline:(apos.endLine == q2.line)=true:=by rfl) :
  PE X (.Call (.Name "list" p1) [.Call (.Attribute o "keys" apos) [] [] q2] [] q1) (fun σ H Q=>td σ H fun x H1=>∃ a kvs,x = .ref a∧H1 a=some (.dK kvs) ∧
   ∀ (l:Addr),H1 l=none→Q (.ref l) (upd H1 l (.lst (kvs.map fun kv=>kV kv.1)))):=by
 intro pins s σ H Q I h
 refine wpAny_Call_Name_kw (zfM I hgl hml PyProof.Rows.boot_list ?_)
 refine PyProof.Rows.callWith_type1 ?_ hs rfl
 rw [hs]
 show wpAny _ _ (spliced ((false,eval (.Call (.Attribute o "keys" apos) [] [] q2) X.env) :: [])) _ _ s
 refine Calls.spliced_cons ?_
 refine wpAny_Call_method0_late hbase hline (thn (ho pins s σ H _ I h) fun v s1 ⟨x,H1,I1,r1,q1⟩=>?_)
 obtain ⟨a,kvs,rfl,hH,q⟩:=q1
 cases r1
 obtain ⟨h1,h2,hsm⟩:=zo2 I1 (.inl ⟨kvs, .inl hH⟩)
 obtain ⟨z,_,vs,rel,dd⟩:=zpR I1.hok hH
 refine ⟨"dict", "dict.keys",PySem.F.plainAttrs_dict,PySem.F.slot_dict_keys,PySem.F.type_dict_keys,h1,h2,Calls.callWith_builtin rfl (PySem.evalArgs_none ?_)⟩
 refine call_meetsIn PySem.F.slot_dict_keys dd.typeIs PySem.F.entry_dict_keys (PySem.F.args_dict_keys_1 _) (PySem.W.kdl_meets_keys (zbi X.prog X.w) a hsm) ⟨⟨vs,dd⟩,?_⟩
 refine Calls.spliced_nil ?_
 have I2:Inv X pins σ H1 { s1 with heap:=s1.heap.push { cls := .type "dict_keys",data := .fields #[.ref a] } }:=I1.kept (t':=s1.toks) fun b o e=>Heap.get?_push_of_some _ e
 obtain ⟨ep,hat⟩:=dd.dictAt
 have hvl:kvs.length=vs.length:=rel.length
 refine PySem.W.kdl_call (s:={ s1 with heap:=s1.heap.push { cls := .type "dict_keys",data := .fields #[.ref a] } }) (PySem.W.kdl_keys (knd:=zbi X.prog X.w) (r:=s1.heap.objs.size) (d:=a) (kvs:=vs) (ep:=ep)) (I2.ok.hd hc) ⟨⟨_,Heap.get?_push_size _ rfl,rfl,rfl⟩,hat.push _⟩ (by omega) fun h' tk acc c hk hS hacc=>?_
 generalize hs2:({ s1 with heap:=s1.heap.push { cls := .type "dict_keys",data := .fields #[.ref a] } }:Shared)=s2 at I2 hk hS
 have hkeys:kvs.map (·.1)=vs.map (·.1):=rel.keys
 have hv:Vals ((kvs.map (·.1)).map kV) acc.toList:=zlS (P:=X.prog) (w:=X.w) _ _ (by rw [Array.length_toList,hacc.1,List.length_map];omega) fun i v hv=>by
  obtain ⟨k,x,e1,e2⟩:=hacc.2 i v (by rw [← Array.getElem?_toList];exact hv)
  exact ⟨k,by rw [hkeys,List.getElem?_map,e1];rfl,e2⟩
 rw [List.map_map] at hv
 have hv':Vals (kvs.map fun kv=>kV kv.1) acc.toList:=hv
 have I3:=I2.laid (t':=tk) (o := .lst (kvs.map fun kv=>kV kv.1)) hk (Nat.le_refl _) ⟨by rw [List.length_map];omega,acc.toList,c,hv',by simpa using hS⟩
 exact ⟨.ref s2.heap.objs.size,_,I3,rfl,q _ (I2.hok.fresh (Nat.le_refl _))⟩
theorem zk9 {K:PySem.W.Frag} {G:Hp} {ι:List Addr}:∀ {ws:List (Key × V)} {kvs:List (Key × A)},ws.map (·.1)=kvs.map (·.1)→DenL K G ι (ws.map fun kv=>kV kv.1) (kvs.map fun kv=>kA kv.1)
 | [],[],_=>by rw [List.map_nil,List.map_nil,zbh]
 | [],_ :: _,h=>by simp at h
 | _ :: _,[],h=>by simp at h
 | wv :: ws,kv :: kvs,h=>by
  rw [List.map_cons,List.map_cons] at h
  obtain ⟨h1,h2⟩:=List.cons.inj h
  rw [List.map_cons,List.map_cons]
  exact .cons (by rw [h1];exact zsd _) (zk9 h2)
@[simp] def zr9 (c:Bool) (f:Ev→Mo A):Ev→Mo A:=fun ρ=>mb (f ρ) fun a Ω=>match ze8 Ω a with
 | some (_,kvs)=>mkL c (kvs.map fun kv=>kA kv.1) Ω
 | none=>none
theorem zna {o:Expr} {f:Ev→Mo A} {p1 apos q1 q2:Pos} (c:Bool) (hc:X.calm=true) (hgl:Gl X "list") (hml:X.mg "list" = none) (ho:VE X W o f)
  (hs:starEach [.Call (.Attribute o "keys" apos) [] [] q2] X.env=[(false,eval (.Call (.Attribute o "keys" apos) [] [] q2) X.env)]:=by rfl)
  (hbase:attributeBase o "keys" X.env (eval o X.env)=eval o X.env:=by rfl) (hline:(apos.endLine == q2.line)=true:=by rfl) :
  VE X W (.Call (.Name "list" p1) [.Call (.Attribute o "keys" apos) [] [] q2] [] q1) (zr9 c f):=by
 obtain ⟨t,p,s⟩:=ho
 refine ⟨_,zm2 hc hgl hml p hs hbase hline,fun G ι Ω H σ ρ Q w r h=>?_⟩
 refine s G ι Ω H σ ρ _ w r (Post.mb h fun a Ω1 v H1 G1 ι1 x1 w1 d1 h1=>?_)
 split at h1
 ·rename_i k kvs e
  obtain ⟨p,ws,rfl,hk,g,q1,q2,q3⟩:=zeu w1 d1 e
  exact ⟨p,ws,rfl,q1,fun l hl=>zgP w1 hl (zk9 q2) h1⟩
 ·exact False.elim h1
@[simp] def znE (k1 v1 k2 v2:Ev→Mo A):Ev→Mo A:=fun ρ Ω=>mb (k1 ρ) (fun a1=>mb (v1 ρ) fun b1=>mb (k2 ρ) fun a2=>mb (v2 ρ) fun b2 Ω'=>match Ω'[Ω.length]?,keyA a1,keyA a2 with
 | some (.dct []),some x1,some x2=>some (.ok (.cel Ω.length),Ω'.set Ω.length (.dct (putA (putA [] x1 b1) x2 b2)))
 | _,_,_=>none) (Ω ++ [.dct []])
theorem zq0 {k1 v1 k2 v2:Expr} {f1 g1 f2 g2:Ev→Mo A} {pos:Pos} (h1:VE X W k1 f1) (h2:VE X W v1 g1) (h3:VE X W k2 f2) (h4:VE X W v2 g2):VE X W (.Dict [some k1,some k2] [v1,v2] pos) (znE f1 g1 f2 g2):=by
 obtain ⟨t1,p1,s1⟩:=h1
 obtain ⟨t2,p2,s2⟩:=h2
 obtain ⟨t3,p3,s3⟩:=h3
 obtain ⟨t4,p4,s4⟩:=h4
 refine ⟨_,ztq (znn p1 p2 (znn p3 p4 ztI)) rfl rfl (by simp) (by simp),fun G ι Ω H σ ρ Q w r h=>?_⟩
 intro p hp
 have w0:Wd X.K G (ι ++ [p]) (Ω ++ [.dct []]) (upd H p (.dK [])):=w.cell hp ⟨w.zhS hp,[],zaI,rfl,by rw [List.map_nil,List.map_nil,zbh]⟩
 have r0:=r.ext (Ext.cell p)
 have h0:Post X.K (Den X.K) W G (ι ++ [p]) σ Q (znE f1 g1 f2 g2 ρ Ω):=h.ext (Ext.cell p)
 unfold znE at h0
 show t1 σ _ _
 refine s1 G _ _ _ σ ρ _ w0 r0 (Post.mb h0 fun a1 Ω1 u1 H1 G1 ι1 x1 w1 d1 q1=>?_)
 show t2 σ _ _
 refine s2 G1 ι1 Ω1 H1 σ ρ _ w1 (r0.ext x1) (Post.mb q1 fun b1 Ω2 u2 H2 G2 ι2 x2 w2 d2 q2=>?_)
 show t3 σ _ _
 refine s3 G2 ι2 Ω2 H2 σ ρ _ w2 (r0.ext (x1.trans x2)) (Post.mb q2 fun a2 Ω3 u3 H3 G3 ι3 x3 w3 d3 q3=>?_)
 show t4 σ _ _
 refine s4 G3 ι3 Ω3 H3 σ ρ _ w3 (r0.ext ((x1.trans x2).trans x3)) (Post.mb q3 fun b2 Ω4 u4 H4 G4 ι4 x4 w4 d4 q4=>?_)
 split at q4
 ·rename_i y1 y2 e1 e2 e3
  have hk:ι4[Ω.length]? = some p:=by
   have e0:(ι ++ [p])[Ω.length]? = some p:=by rw [← w.len];simp
   exact (((x1.trans x2).trans x3).trans x4).pre _ _ e0
  obtain ⟨g,ws,c1,c2,c3⟩:=w4.cel _ _ _ e1 hk
  have hws:ws=[]:=by
   have:=congrArg List.length c2
   simp at this
   exact this
  subst hws
  have ek1:=zhs (d1.ext ((x2.trans x3).trans x4)) e2
  have ek2:=zhs (d3.ext x4) e3
  refine ⟨c1,[(y1,u2),(y2,u4)],by rw [ek1,ek2];rfl,by simp,?_⟩
  have den1:DenL X.K G4 ι4 ((putK [] y1 u2).map (·.2)) ((putA [] y1 b1).map (·.2)):=zmR rfl (by rw [List.map_nil,List.map_nil,zbh]) (d2.ext (x3.trans x4))
  have key1:(putK [] y1 u2).map (·.1)=(putA [] y1 b1).map (·.1):=zkI rfl
  have den2:=zmR (k:=y2) key1 den1 d4
  have key2:=zkI (k:=y2) (v:=u4) (a:=b2) key1
  exact q4 _ _ G4 ι4 (Ext.refl _ _) (w4.put (c := .dct (putA (putA [] y1 b1) y2 b2)) hk g ⟨g,_,zaI,key2,den2⟩) (by simp only [Den];exact ⟨p,rfl,hk⟩)
 ·exact False.elim q4
end
end V2
namespace V2
open PySem PySem.Spec PyProof.Rows L2
def Iter (K:PySem.W.Frag) (a:Addr) (n:Nat):It :=
 ⟨fun i H=>∃ xs x,SqL K H a xs∧xs.length=n∧i < n∧xs[n - 1 - i]? = some x,
  fun i H x H'=>∃ p y,H p=none∧H'=upd H p (.tup [.int (i:Int),y])∧x = .ref p∧∀ xs,SqL K H a xs→xs[n - 1 - i]? = some y,
  fun i H=>∃ xs,SqL K H a xs∧xs.length=n∧n ≤ i⟩
theorem zlD {P:Program} {w:World} {K:PySem.W.Frag} {elts:List Expr} {x1:Nat} {tp:Pos} (a e it:Addr) (n:Nat) (hne:e ≠ it) (hea:e ≠ a) (hai:a ≠ it) :
  Turn P w K (.Tuple elts x1 tp) (Iter K a n) [e,it] e (fun i h=>(∃ old,IsEnum h e it (i:Int) old)∧i ≤ n∧h.IsRevIter it a ((n:Int) - 1 - (i:Int))) where
 mem:=by simp
 obj:=fun i h st b hb=>by
  obtain ⟨⟨old,st1⟩,_,o,q,c,d⟩:=st
  rcases List.mem_cons.mp hb with z | z
  ·subst z;exact ⟨_,st1,fun v z=>by cases z⟩
  ·have z:b=it:=by simpa using z
   subst z;exact ⟨o,q,fun v z=>by rw [d] at z;cases z⟩
 keep:=fun i h h' st k=>⟨let ⟨old,q⟩:=st.1; ⟨old,k e (by simp) _ q⟩,st.2.1,st.2.2.at fun o q=>k it (by simp) o q⟩
 item:=by
  intro X hP hw hK hc i pins s σ H E I hf st hg
  subst hP hw hK
  obtain ⟨⟨old,st1⟩,st0,st2⟩:=st
  obtain ⟨xs,x,hq,hn,hi,hx⟩:=hg
  obtain ⟨its,rv,p,hz⟩:=I.list hq
  have hlen:=rv.length
  have hsz:its.toArray.size=n:=by rw [List.size_toArray,← hlen,hn]
  have fe:=hf e (by simp)
  have ft:=hf it (by simp)
  have hse:e < s.heap.objs.size:=Heap.lt_size st1
  have hsi:it < s.heap.objs.size:=let ⟨_,q,_⟩:=st2;Heap.lt_size q
  refine wpAny_pyNext_enum_itemD (Draws.listRev (A:=X.A.in1) (I.ok.hd hc) it a hai its.toArray) st1 ⟨by omega,by rw [hsz];exact st2,p.isList⟩ (by omega) hne (by simp [hne,hea]) fun u h1 tk hu e1 i1 t1 z1 k1=>?_
  rw [hsz] at hu
  obtain ⟨u',hu',ru⟩:=rv.get hx
  have eu:u=u':=by
   have q:its[n - 1 - i]? = some u:=by simpa using hu
   rw [hu'] at q;cases q;rfl
  subst eu
  refine ⟨_,rfl,wpAny_letOwnedTupleGo_enum (s:={ s with heap:=h1,toks:=tk + 1 }) e1 fun h2 e2 s2=>?_⟩
  have hp0:H s.heap.objs.size=none:=I.hok.fresh (Nat.le_refl _)
  have k2:∀ b o,b ≠ e→b ≠ it→s.heap.get? b=some o→h2.get? b=some o:=fun b o n1 n2 q=>s2.extBut b o n1 (k1 b o n1 n2 q)
  have t2:h2.get? s.heap.objs.size=some { cls := .type "tuple",data := .seq #[.int (i:Int) tk,u] }:=s2.extBut _ _ (Nat.ne_of_gt hse) t1
  have I1:Inv X pins σ H { s with heap:=h2,toks:=tk + 1 }:=Inv.zpx (t':=tk + 1) I k2 fe ft
  have i2:h2.IsRevIter it a ((n:Int) - 1 - ((i + 1:Nat):Int)):=by
   have q:=i1.2.1
   rw [hsz] at q
   exact q.at fun o z=>s2.extBut it o (Ne.symm hne) z
  have hok:HOk X.prog X.w (upd H s.heap.objs.size (.tup [.int (i:Int),x])) h2:=by
   refine fun b o q=>?_
   by_cases eb:b=s.heap.objs.size
   ·subst eb
    rw [zaI] at q
    cases q
    exact ⟨by show 2 ≤ sizeLine;decide,[.int (i:Int) tk,u], .cons ⟨_,rfl⟩ (.cons ru .nil),⟨_,t2,rfl,_,rfl⟩⟩
   ·rw [zat eb] at q
    exact (I1.hok b o q).stay (fun c v _ z=>z) (fun c z=>by rw [zat (zaW z hp0)];exact z) fun c xs z=>by rw [zat (zaW z hp0)];exact z
  have fp:FpOk X pins H s.heap.objs.size:=I.fpOk (Nat.le_refl _) hp0
  have h0:X.s₀.heap.get? s.heap.objs.size=none:=by
   cases q:X.s₀.heap.get? s.heap.objs.size with
   | none=>rfl
   | some ob=>exact absurd (Nat.lt_of_lt_of_le (Heap.lt_size q) I.sz) (Nat.lt_irrefl _)
  have I2:Inv X pins σ (upd H s.heap.objs.size (.tup [.int (i:Int),x])) { s with heap:=h2,toks:=tk + 1 }:=Inv.zsq I1 hp0 h0 fp.2.1 fp.2.2.2.2.1 fp.2.2.2.2.2 hok
  refine ⟨.ref s.heap.objs.size,_,I2,rfl,⟨_,x,hp0,rfl,rfl,fun ys hy=>by rw [I.zid hy hq];exact hx⟩,⟨⟨_,e2⟩,hi,i2⟩,fun b hb=>?_⟩
  rcases List.mem_cons.mp hb with z | z
  ·subst z;rw [zat (Nat.ne_of_lt hse)];exact fe.1
  ·have z:b=it:=by simpa using z
   subst z;rw [zat (Nat.ne_of_lt hsi)];exact ft.1
 done:=by
  intro X hP hw hK hc i pins s σ H E I hf st hg
  subst hP hw hK
  obtain ⟨⟨old,st1⟩,st0,st2⟩:=st
  obtain ⟨xs,hq,hn,hi⟩:=hg
  obtain ⟨its,rv,p,hz⟩:=I.list hq
  have hlen:=rv.length
  have hsz:its.toArray.size=n:=by rw [List.size_toArray,← hlen,hn]
  have ein:i=n:=by omega
  obtain ⟨f0,f1,f2,f3,f4,f5⟩:=hf it (by simp)
  refine wpAny_pyNext_enum_endD (Draws.listRev (A:=X.A.in1) (I.ok.hd hc) it a hai its.toArray) st1 ⟨Nat.le_refl _,by rw [hsz,← ein];rw [← ein] at st2;exact st2,p.isList⟩ fun h' eb=>⟨rfl,I.turned (t':=s.toks) (fun b o hb e=>eb b o hb e) f0 f1 f3 f4 f5⟩
 self:=fun _ _ _ _ _ st h=>let ⟨_,q⟩:=st.1;wpAny_pyIter_enum q h
section
variable {X:Cx} {W:WX} {pos:Pos}
theorem zou {elts:List Expr} {x1:Nat} {tp p p2 q2:Pos} {l:Expr} {tl:TE} (hg:Gl X "enumerate") (hm:X.mg "enumerate" = none) (hgr:Gl X "reversed") (hmr:X.mg "reversed" = none) (hl:PE X l tl)
  (hs:starEach [.Call (.Name "reversed" p2) [l] [] q2] X.env=[(false,eval (.Call (.Name "reversed" p2) [l] [] q2) X.env)]:=by rfl) (hs1:starEach [l] X.env=[(false,eval l X.env)]:=by rfl) :
  PI X (.Tuple elts x1 tp) (.Call (.Name "enumerate" p) [.Call (.Name "reversed" p2) [l] [] q2] [] pos) (fun σ H R=>tl σ H fun x H1=>∃ a xs,x = .ref a∧SqL X.K H1 a xs∧R (Iter X.K a xs.length) H1):=by
 intro pins s σ H R I h
 refine wpAny_Call_Name_kw (zfM I hg hm boot_enumerate ?_)
 refine PyProof.Rows.callWith_type1 ?_ hs rfl
 rw [hs]
 show wpAny _ _ (spliced ((false,eval (.Call (.Name "reversed" p2) [l] [] q2) X.env) :: [])) _ _ s
 refine Calls.spliced_cons ?_
 refine wpAny_Call_Name_kw (zfM I hgr hmr boot_reversed ?_)
 refine PyProof.Rows.callWith_type1 (thn (zhE hl zl9 hs1 q2 pins s σ H (fun vs H1=>match vs with
  | [x]=>∃ a xs,x=V.ref a∧SqL X.K H1 a xs∧R (Iter X.K a xs.length) H1
  | _=>False) I h) fun us s1 ⟨vs,H1,I1,r1,q1⟩=>?_) hs1 rfl
 match vs,q1 with
 | [x],q1 =>
 obtain ⟨a,xs,e1,hq,q⟩:=q1
 obtain ⟨u,rfl,ru⟩:=vals1 r1
 subst e1
 cases ru
 obtain ⟨its,rv,pl,hz⟩:=I1.list hq
 have hlen:=rv.length
 refine call_reversed_list pl.isList ?_
 refine Calls.spliced_nil ?_
 obtain ⟨oa,hoa,_⟩:=id pl.isList
 have hla:a < s1.heap.objs.size:=Heap.lt_size hoa
 refine zgY (s:={ s1 with heap:=s1.heap.push (revObj a ((its.toArray.size:Int) - 1)) }) (r:=s1.heap.objs.size) (l:=a) (i:=(its.toArray.size:Int) - 1) (Heap.get?_push_size _ rfl) fun hE=>?_
 have es:(s1.heap.push (revObj a ((its.toArray.size:Int) - 1))).objs.size=s1.heap.objs.size + 1:=Heap.size_push ..
 have hk:∀ b o,s1.heap.get? b=some o→((s1.heap.push (revObj a ((its.toArray.size:Int) - 1))).push { cls := .type "enumerate",data := .fields #[.none, .bool false, .ref s1.heap.objs.size,rawInt 0, .none, .none] }).get? b=some o :=
  fun b o z=>Heap.get?_push_of_some _ (Heap.get?_push_of_some _ z)
 have I2:=I1.kept (t':=s1.toks) hk
 have st:((s1.heap.push (revObj a ((its.toArray.size:Int) - 1))).push { cls := .type "enumerate",data := .fields #[.none, .bool false, .ref s1.heap.objs.size,rawInt 0, .none, .none] }).IsRevIter s1.heap.objs.size a ((xs.length:Int) - 1 - ((0:Nat):Int)):=by
  have e:((its.toArray.size:Int) - 1)=(xs.length:Int) - 1 - ((0:Nat):Int):=by rw [List.size_toArray,← hlen];simp
  rw [← e]
  exact ⟨_,Heap.get?_push_of_some _ (Heap.get?_push_size _ rfl),rfl,rfl⟩
 refine wpAny_pyIter_enum hE ?_
 refine ⟨_,[(s1.heap.push (revObj a ((its.toArray.size:Int) - 1))).objs.size,s1.heap.objs.size],_,_,H1,rfl,I2,zlD a _ _ xs.length (by rw [es];exact Nat.succ_ne_self _) (by rw [es];exact Nat.ne_of_gt (Nat.lt_succ_of_lt hla)) (Nat.ne_of_lt hla),⟨⟨.none,hE⟩,Nat.zero_le _,st⟩,fun b hb=>?_,q⟩
 rcases List.mem_cons.mp hb with z | z
 ·subst z;rw [es];exact I1.fpOk (Nat.le_succ _) (I1.hok.fresh (Nat.le_succ _))
 ·have z:b=s1.heap.objs.size:=by simpa using z
  subst z;exact I1.fpOk (Nat.le_refl _) (I1.hok.fresh (Nat.le_refl _))
def zeI (a:A) (ds:List A):Src:=⟨zaA 0 ds.reverse,fun Ω=>zaG Ω a=some ds⟩
@[simp] def zsc (f:Ev→Mo A):Ev→Mo Src:=fun ρ=>mb (f ρ) fun a Ω=>match zaG Ω a with
 | some ds=>some (.ok (zeI a ds),Ω)
 | none=>none
theorem zm7 {K:PySem.W.Frag} {G:Hp} {ι:List Addr} {p:Addr} {a:A} {ds:List A} (d:Den K G ι (.ref p) a):ItV K G ι (Iter K p ds.length) (zeI a ds):=by
 have key:∀ G' ι' Ω' H',Ext G ι G' ι'→Wd K G' ι' Ω' H'→zaG Ω' a=some ds→∃ xs,SqL K H' p xs∧DenL K G' ι' xs ds:=fun G' ι' Ω' H' e w h=>by
  obtain ⟨q,xs,h1,h2,h3⟩:=zby w (d.ext e) h
  cases h1
  exact ⟨xs,h2,h3⟩
 have len:(zaA 0 ds.reverse).length=ds.length:=by rw [zf6,List.length_reverse]
 refine ⟨fun G' ι' Ω' H' e w h i hi=>?_,fun G' ι' Ω' H' e w h i hi=>?_,fun G' ι' Ω' H' e w h i x H2 y hy hd=>?_⟩
 ·obtain ⟨xs,h2,h3⟩:=key G' ι' Ω' H' e w h
  have hi':i < ds.length:=by rw [← len];exact hi
  have hl:ds.length - 1 - i < xs.length:=by rw [h3.length];omega
  exact ⟨xs,xs[ds.length - 1 - i],h2,h3.length,hi',List.getElem?_eq_getElem hl⟩
 ·obtain ⟨xs,h2,h3⟩:=key G' ι' Ω' H' e w h
  exact ⟨xs,h2,h3.length,by rw [← len];exact hi⟩
 ·obtain ⟨xs,h2,h3⟩:=key G' ι' Ω' H' e w h
  obtain ⟨q,z,e1,e2,e3,e4⟩:=hd
  subst e2 e3
  have hy':(zaA 0 ds.reverse)[i]? = some y:=hy
  have hi':i < ds.length:=by have:=(List.getElem?_eq_some_iff.mp hy').1;rw [len] at this;exact this
  rw [zik,List.getElem?_reverse hi'] at hy'
  cases ed:ds[ds.length - 1 - i]? with
  | none=>rw [ed] at hy';cases hy'
  | some d' =>
   rw [ed] at hy'
   cases hy'
   obtain ⟨z',q1,q2⟩:=h3.get ed
   rw [e4 xs h2] at q1
   cases q1
   refine ⟨upd G' q (.tup [.int (i:Int),z]),Ext.new (w.zhS e1) _,w.new e1 _,?_⟩
   simp only [Den]
   exact ⟨q,_,rfl,zaI, .cons (by simp only [Den,Nat.zero_add]) (.cons (q2.ext (Ext.new (w.zhS e1) _)) .nil)⟩
theorem zoe {elts:List Expr} {x1:Nat} {tp p p2 q2:Pos} {l:Expr} {fe:Ev→Mo A} (hg:Gl X "enumerate") (hm:X.mg "enumerate" = none) (hgr:Gl X "reversed") (hmr:X.mg "reversed" = none) (h:VE X W l fe)
  (hs:starEach [.Call (.Name "reversed" p2) [l] [] q2] X.env=[(false,eval (.Call (.Name "reversed" p2) [l] [] q2) X.env)]:=by rfl) (hs1:starEach [l] X.env=[(false,eval l X.env)]:=by rfl) :
  VI X W (.Tuple elts x1 tp) (.Call (.Name "enumerate" p) [.Call (.Name "reversed" p2) [l] [] q2] [] pos) (zsc fe):=by
 obtain ⟨t,p,s⟩:=h
 refine ⟨_,zou hg hm hgr hmr p hs hs1,fun G ι Ω H σ ρ R w r h=>?_⟩
 refine s G ι Ω H σ ρ _ w r (Post.mb h fun a Ω1 v H1 G1 ι1 x1 w1 d1 h1=>?_)
 cases e:zaG Ω1 a with
 | none=>simp only [e] at h1;exact False.elim h1
 | some ds =>
  simp only [e] at h1
  obtain ⟨q,xs,h2,h3,h4⟩:=zby w1 d1 e
  subst h2
  refine ⟨q,xs,rfl,h3,?_⟩
  rw [h4.length]
  exact h1 _ H1 G1 ι1 (Ext.refl _ _) w1 (zm7 d1)
end
end V2
namespace M
open PySem V2
noncomputable def zfq:MS :=
 (sRet (vOp gIx (vLst false (zac (cI 1) (zac (cI 1) (zac (cI 1) (zac (vOp (gAdd false) (cI 1) (vOp (gMod) (vOp (gDiv) (vVar 0) (cI 6)) (cI 3))) (zac (vOp (gAdd false) (cI 1) (vOp (gMod) (vOp (gDiv) (vVar 0) (cI 6)) (cI 9))) (zac (vOp (gAdd false) (cI 1) (vOp (gMod) (vOp (gDiv) (vVar 0) (cI 6)) (cI 1000000))) a0))))))) (vOp (gMod) (vVar 0) (cI 6))))
noncomputable def zca:List A→Mo A:=fnF 1 zfq
noncomputable def zh5:MS :=
 (zlQ (vOp (gAdd false) (zpP (vVar 1) (vVar 2) (cI 0)) (vVar 3)) (vVar 1) (vVar 2))
noncomputable def zd3:MS :=
 (sSeq (sAsg zqH (gN 1))
  (sSeq (sFor (vSeq (vVar 0)) (zbl 2 (zak (gN 2) (zak (gN 3) zbo))) zh5)
  (sRet (vCl (zpq false) (zac (zqb false (vVar 1)) a0)))))
noncomputable def zd1:List A→Mo A:=fnF 4 zd3
noncomputable def zdJ:MS :=
 (sSeq (sAsg (vOp (gAdd false) (vVar 2) (vVar 4)) (gN 2))
   (sIf (zaB (vOp gLe (vVar 1) (vVar 2)))
    (sRet (vVar 3))
    sNx))
noncomputable def zgQ:MS :=
 (sSeq (sAsg (cI 0) (gN 2))
  (sSeq (sFor (vSeq (vVar 0)) (zbl 2 (zak (gN 3) (zak (gN 4) zbo))) zdJ)
  (sRet cN)))
noncomputable def zfF:List A→Mo A:=fnF 5 zgQ
noncomputable def ziS:MS :=
 (sRet (vOp gIx (vLst false (zac (cI 0) (zac (cI 0) (zac (vOp (gMod) (vOp (gDiv) (vVar 0) (cI 4)) (cI 4)) (zac (vOp (gMod) (vOp (gDiv) (vVar 0) (cI 4)) (cI 1000)) a0))))) (vOp (gMod) (vVar 0) (cI 4))))
noncomputable def zdi:List A→Mo A:=fnF 1 ziS
noncomputable def zb7:MS :=
 (sSeq (sAsg (vCl zn6 (zac (vVar 1) (zac (vOp (gSub) (vOp gIx (vVar 3) (cI 2)) (vOp gIx (vVar 3) (cI 1))) a0))) (gN 1))
   (sIf (zmw (zaB (vOp gGt (vVar 2) (cI 0))) (zaB (vOp gNe (vOp gIx (vOp gIx (vVar 0) (vOp (gSub) (vVar 2) (cI 1))) (cI 0)) (vOp gIx (vVar 3) (cI 0)))))
    (sAsg (vCl zn6 (zac (vVar 1) (zac (vOp (gSub) (vOp (gSub) (vOp gIx (vVar 3) (cI 2)) (vOp gIx (vOp gIx (vVar 0) (vOp (gSub) (vVar 2) (cI 1))) (cI 1))) (cI 1)) a0))) (gN 1))
    sNx))
noncomputable def zeq:MS :=
 (sSeq (sAsg (cI 0) (gN 1))
  (sSeq (sFor (zgK (vVar 0)) (zbl 2 (zak (gN 2) (zak (gN 3) zbo))) zb7)
  (sRet (vVar 1))))
noncomputable def zcS:List A→Mo A:=fnF 4 zeq
noncomputable def zbr:MS :=
 (sSeq (sAsg (vCl (zaq 2 zaQ) (zac (vVar 0) (zac (vVar 3) a0))) (gN 4))
   (sSeq (sAsg (vOp (gAdd false) (cI 1) (vOp (gMod) (vVar 4) (vVar 1))) (gN 5))
   (sSeq (sIf (zaB (vOp gEq (vOp (gMod) (vOp (gDiv) (vVar 4) (cI 5)) (cI 3)) (cI 0)))
    (sAsg (vOp (gAdd false) (cI 1) (vOp (gMod) (vVar 4) (vCl zof (zac (vVar 1) (zac (cI 9) a0))))) (gN 5))
    sNx)
   (zlQ (cB true) (vVar 2) (vVar 5)))))
noncomputable def zcv:MS :=
 (sSeq (sAsg (znE (cI 1) (cB true) (vVar 1) (cB true)) (gN 2))
  (sSeq (sFor (zi2 (zac (vOp (gMod) (vVar 0) (cI 30)) a0)) (gN 3) zbr)
  (sRet (vCl (zqn false) (zac (zr9 false (vVar 2)) a0)))))
noncomputable def zcy:List A→Mo A:=fnF 6 zcv
noncomputable def zce:MS :=
 (sSeq (sAsg (vCl zn6 (zac (vOp (gAdd false) (vOp gIx (vVar 5) (vNeg (cI 1))) (cI 1)) (zac (vOp (gSub) (vVar 8) (vCl (zaq 1 zdi) (zac (vCl (zaq 2 zaQ) (zac (vVar 2) (zac (vOp (gAdd false) (cI 60) (vVar 7)) a0))) a0))) a0))) (gN 9))
   (sExp (vBM ziV (vVar 5) (zac (vOp gIx (vLst false (zac (vVar 9) (zac (vVar 8) a0))) (vCl zn0 (zac (vOp gEq (vVar 8) (vVar 4)) a0))) a0))))
noncomputable def zck:MS :=
 (sSeq (sAsg (vCl zof (zac (vOp (gSub) (vOp gIx (vVar 6) (vNeg (cI 1))) (cI 1)) (zac (vOp (gAdd false) (vVar 8) (vCl (zaq 1 zdi) (zac (vCl (zaq 2 zaQ) (zac (vVar 2) (zac (vOp (gAdd false) (cI 120) (vVar 7)) a0))) a0))) a0))) (gN 10))
   (sExp (vBM ziV (vVar 6) (zac (vOp gIx (vLst false (zac (vVar 10) (zac (vVar 8) a0))) (vCl zn0 (zac (vOp gEq (vVar 8) (cI 1)) a0))) a0))))
noncomputable def zdk:Ev→Mo A :=
 (vLC true 1 [] (zs2 (vVar 6)) (gN 0) yesM (vVar 0))
noncomputable def zeL:Ev→Mo A :=
 (vLC false 2 [3,5,6] (zgK (vVar 1)) (zbl 2 (zak (gN 0) (zak (gN 1) zbo))) yesM (vTup (zac (vCl (noX (zaq 2 zfF)) (zac (vVar 2) (zac (vVar 1) a0))) (zac (vOp gIx (vVar 3) (vOp (gAdd false) (vVar 0) (cI 1))) (zac (vOp gIx (vVar 4) (vVar 0)) a0)))))
noncomputable def zdE:MS :=
 (sSeq (sAsg (vCl (zaq 1 zd1) (zac (vVar 0) a0)) (gN 3))
  (sSeq (sAsg (vOp gIx (vVar 1) (vNeg (cI 1))) (gN 4))
  (sSeq (sAsg (vLst true (zac (cI 0) a0)) (gN 5))
  (sSeq (sAsg (vLst true (zac (vOp (gAdd false) (vVar 4) (cI 1)) a0)) (gN 6))
  (sSeq (sFor (zgK (vVar 1)) (zbl 2 (zak (gN 7) (zak (gN 8) zbo))) zce)
  (sSeq (sFor (zsc (vVar 1)) (zbl 2 (zak (gN 7) (zak (gN 8) zbo))) zck)
  (sSeq (sAsg zdk (gN 6))
  (sRet zeL))))))))
noncomputable def zdB:List A→Mo A:=fnF 11 zdE
noncomputable def zfD:Ev→Mo A :=
 (vLC false 2 [] (vSeq (vVar 0)) (zbl 2 (zak (gN 0) (zak (gN 1) zbo))) yesM (vVar 1))
noncomputable def zdK:MS :=
 (sSeq (sAsg (vCl gSum (zac zfD a0)) (gN 2))
  (sSeq (sIf (zaB (vOp gEq (vVar 2) (cI 0)))
   (sRet (vTup (zac (cI 0) (zac (vOp (gMod) (vVar 1) (cI 3)) (zac (vOp (gMod) (vOp (gDiv) (vVar 1) (cI 3)) (cI 3)) (zac (vLst false a0) a0))))))
   sNx)
  (sSeq (sAsg (vCl (zaq 3 zdB) (zac (vVar 0) (zac (vCl (zaq 2 zcy) (zac (vCl (zaq 2 zaQ) (zac (vVar 1) (zac (cI 1) a0))) (zac (vVar 2) a0))) (zac (vVar 1) a0)))) (gN 3))
  (sRet (vTup (zac (vVar 2) (zac (vOp (gAdd false) (vCl (zaq 1 zcS) (zac (vVar 3) a0)) (vOp gIx (vLst false (zac (cI 0) (zac (cI 0) (zac (cI 1) (zac (vOp (gMod) (vOp (gDiv) (vVar 1) (cI 4)) (cI 50)) a0))))) (vOp (gMod) (vVar 1) (cI 4)))) (zac (vOp (gMod) (vOp (gDiv) (vVar 1) (cI 200)) (cI 5)) (zac (vVar 3) a0)))))))))
noncomputable def zer:List A→Mo A:=fnF 4 zdK
end M
namespace M
open PySem V2
noncomputable def zbc:MS :=
 (sIf (zh3 (zaB (vCl (zaq 2 zaX) (zac (vVar 0) (zac (vVar 1) a0)))))
    (zgA "NoPouch" "at" (zac (vVar 1) a0))
    sNx)
noncomputable def zei:MS :=
 (sSeq (sIf (zh3 (zaB (vCl (zaq 1 za5) (zac (vVar 0) a0))))
   (zgA "NoPouch" "at" (zac (cI 0) a0))
   sNx)
  (sSeq (sFor (zi2 (zac (vCl gLen (zac (vOp gIx (vVar 0) (cI 3)) a0)) a0)) (gN 1) zbc)
  (sRet (cB true))))
noncomputable def zb9:List A→Mo A:=fnF 2 zei
end M
namespace L2
open PySem PySem.Spec PyProof.Rows
def zu6 (p:Addr) (oe:Obj) (outer:List Env) (s:Shared) (H:Hp):Prop:=s.heap.get? p=some oe∧H p=none∧p ∉ frs outer∧∀ v,oe.data ≠ .cell v
def RunP (P:Program) (w:World) (K:PySem.W.Frag) (mg:Str→Option Value) (base:Heap) (k:Nat) (f:Addr) (fd:FuncData) (ps:List Str) (p:Addr) (oe:Obj) (sp:Sp):Prop :=
 ∀ (A:Around) (outer:List Env) (s:Shared) (H:Hp) (args:Args) (us:List Value) (vs:List V) (Q:VK) (E:XK),Room k A→Env0 P w K mg base A outer s H→BindsTo s fd args (ps.zip us)→Vals vs us→zu6 p oe outer s H→sp vs H Q E →
  codeAny (model P w) (A.mark (some (.ref p))) (.call (.ref f) args) (CR CX0 outer P w H s Q E) s
section
variable {P:Program} {w:World} {K:PySem.W.Frag} {mg:Str→Option Value} {base:Heap} {p:Addr} {oe:Obj}
set_option maxRecDepth 100000 in
theorem zvU {k:Nat} {f:Addr} {name qual:Str} {params:Arguments} {body:List Stmt} {scope:Scope} {dV kV doc pm cdv ct oc:Value} {an od:Option Addr}
  {osl:Array (Option Value)} {N ps:List Str} {sp:Sp} (lk:K.lookup f=some ⟨oc,od, .func (PySem.W.fnOf name qual params body scope dV kV doc pm an cdv ct),osl⟩) (hcd:PySem.W.codeIn K cdv qual=true) (S:zaz N ps scope)
  (len:∀ vs H Q E,sp vs H Q E→vs.length=ps.length)
  (hbody:∀ (A:Around) (outer:List Env) (s:Shared) (H:Hp) (vs:List V) (Q:VK) (E:XK),Room k (A.deeper (envOfC qual scope s.heap.objs.size f cdv))→sp vs H Q E →
   ∃ t,PSs ((cxOf CX0 P w K mg base N qual scope f cdv A outer s H E).zcX p oe) body t∧t { nx:=fun _ H'=>Q .non H',rt:=Q } (start N vs) H) :
  RunP P w K mg base (k + 1) f (PySem.W.fnOf name qual params body scope dV kV doc pm an cdv ct) ps p oe sp:=by
 intro A outer s H args us vs Q E hr e0 hb r pin hsp
 have hl:=len _ _ _ _ hsp
 have KX:K.In s.heap:=e0.mod.kin.keeps fun b o e=>(e0.bs b o e).1
 have lim:s.heap.NoLimit:=e0.mod.nolimit.keeps fun b o e=>(e0.bs b o e).1
 have hkind:∀ y ∈ ps.zip us,scope.names.lookup y.1=some .local∨(scope.names.lookup y.1=some .cell∧((cellsFrom (s.heap.objs.size + 1) scope.names []).lookup y.1).isSome=true):=fun ⟨n,v⟩ hy=>by
  rcases S.par n (List.of_mem_zip hy).1 with q | q
  ·exact .inl q
  ·exact .inr ⟨q,PySem.W.cellsFrom_some _ _ _ (.inl q)⟩
 refine codeAny_call_function (A:=A.mark (some (.ref p))) hr.depth (KX _ _ lk) rfl S.co S.gen rfl (PySem.W.codeRec_of KX hcd) (hb _ _ _ _ ?_)
 refine wpAny_newFunctionEnv_cells S.kind hkind fun env he s1 x=>?_
 subst he
 refine ⟨lim.keeps x.toInCall.keep,codeAny_func ?_⟩
 obtain ⟨t,ht,hq⟩:=hbody A outer s H vs Q E (hr.deeper _) hsp
 have I0:Inv (cxOf CX0 P w K mg base N qual scope f cdv A outer s H E) [] (start N vs) H s1:=zgT S hr.hd e0 hl r x
 obtain ⟨p1,p2,p3,p4⟩:=pin
 have hlt:p < s.heap.objs.size:=by
  rcases Nat.lt_or_ge p s.heap.objs.size with h | h
  ·exact h
  ·exfalso
   first | (rw [Heap.get?_none_of_ge h] at p1;cases p1) | (simp [Heap.get?,h] at p1) | (unfold Heap.get? at p1;simp [h] at p1)
 have I:Inv ((cxOf CX0 P w K mg base N qual scope f cdv A outer s H E).zcX p oe) [] (start N vs) H s1:=I0.zcX ⟨x.toInCall.keep _ _ p1,p2,fun z=>absurd hlt (by rw [z];exact Nat.lt_irrefl _),p3,p4⟩
 refine wpAny_mono (ht [] s1 (start N vs) H _ I hq) (fun fl s' hs=>?_) fun e s' hs=>hs.elim
 have fin:∀ {σ':St} {H':Hp} {v:V} {u:Value},Inv ((cxOf CX0 P w K mg base N qual scope f cdv A outer s H E).zcX p oe) [] σ' H' s'→RelV v u→Q v H'→CE outer P w H s Q u s' :=
  fun {σ' H' v u} J rv q=>⟨v,H',J.os,J.bare,J.base,J.hok,rv,q⟩
 cases fl with
 | ret u =>
  obtain ⟨v,σ',H',J,rv,q⟩:=hs
  exact fin J rv q
 | next =>
  obtain ⟨σ',H',J,q⟩:=hs
  exact fin (v:=V.non) (u:=Value.none) J rfl q
 | brk =>
  obtain ⟨_,_,_,q⟩:=hs
  exact False.elim q
 | cont =>
  obtain ⟨_,_,_,q⟩:=hs
  exact False.elim q
end
end L2
namespace V2
open PySem PySem.Spec PyProof.Rows L2
def DefP (P:Program) (w:World) (K:PySem.W.Frag) (mg:Str→Option Value) (base:Heap) (x:Str) (k:Nat) (ps:List Str) (p:Addr) (oe:Obj) (F:List A→Mo A):Prop :=
 ∃ f fd,RunP P w K mg base k f fd ps p oe (fun vs H Q _=>spV K ps.length F vs H Q fun _ _ _=>False)∧mg x=some (.ref f)∧PySem.W.keepIn K (.ref f)=true∧Binds K fd ps []
theorem DefP.of {P:Program} {w:World} {K:PySem.W.Frag} {mg:Str→Option Value} {base:Heap} {p:Addr} {oe:Obj} {x:Str} {st:Stmt} {N ps:List Str} {k:Nat} {b:MS} (h:HasFn K mg x st) (S:zaz N ps (zae st))
  (bind:∀ (kV doc pm:Value) (an:Option Addr) (cdv ct:Value) (us:List Value),us.length=ps.length→bindArgs (PySem.W.fnOf x x (zax st) (zap st) (zae st) .none kV doc pm an cdv ct) ⟨us,[]⟩ = pure (ps.zip us))
  (hbody:∀ (f:Addr) (cdv:Value) (A:Around) (outer:List Env) (s:Shared) (H:Hp) (E:XK),Room k (A.deeper (envOfC x (zae st) s.heap.objs.size f cdv)) →
   VSs ((cxOf CX0 P w K mg base N x (zae st) f cdv A outer s H E).zcX p oe) noW (zap st) b):DefP P w K mg base x (k + 1) ps p oe (fnF N.length b):=by
 obtain ⟨f,fd,hm,F⟩:=h.ex
 refine ⟨f,fd,?_,hm,F.kp,F.binds bind⟩
 obtain ⟨oc,od,kV,doc,pm,an,cdv,ct,osl,rfl,lk,hcd⟩:=F.ex
 refine zvU lk hcd S (fun vs H Q E h=>h.1) fun A outer s H vs Q E hr hsp=>?_
 obtain ⟨t,p,q⟩:=hbody f cdv A outer s H E hr
 exact ⟨t,p,zmH (E:=fun _ _ _=>False) q hsp⟩
section
variable {X:Cx} {W:WX} {x:Str} {e:Expr} {es:List Expr} {np pos:Pos} {fs:Ev→Mo (List A)} {p:Addr} {oe:Obj}
theorem zj5 {k:Nat} {ps:List Str} {F:List A→Mo A} (D:DefP X.prog X.w X.K X.mg X.base x k ps p oe F) (hr:Room k X.A) (hg:Gl (X.zcX p oe) x) (ha:VA (X.zcX p oe) W (e :: es) fs)
  (hdb:(x == ("__debug__" : Str))=false:=by decide) (he:starEach (e :: es) X.env=(false,eval e X.env) :: starEach es X.env:=by rfl) (hpl:(backTo pos (starEach es X.env)).any (·.1)=false:=by rfl):VE (X.zcX p oe) W (.Call (.Name x np) (e :: es) [] pos) (vCl (noX (zaq ps.length F)) fs):=by
 obtain ⟨f,fd,R,hm,hk,hb⟩:=D
 obtain ⟨t,p1,s1⟩:=ha
 refine ⟨zsR (fun vs H Q _=>spV X.K ps.length F vs H Q fun _ _ _=>False) [] E0 t,?_,fun G ι Ω H σ ρ Q w r h=>?_⟩
 ·intro pins s σ H Q I h
  refine wpAny_Call_Name_kw (zfW I hg hm ?_ hdb)
  refine PySem.W.callWith_K (h₀:=X.base) I.ok.mod.kin hk (thn (p1 pos pins s σ H _ I h) fun us s1 ⟨vs,H1,I1,r,q⟩=>⟨I1.kIn,?_⟩) he hpl
  have q:spV X.K ps.length F vs H1 Q fun _ _ _=>False:=by
   have q:=q
   simp only [List.append_nil] at q
   exact q
  have hl:us.length=ps.length:=by rw [← r.length];exact q.1
  have hb':=hb s1 us I1.kIn (by rw [List.append_nil];exact hl)
  rw [List.append_nil] at hb'
  have pin:=I1.pin (p,oe) (List.mem_append_left _ (List.mem_append_right _ (List.mem_singleton_self _)))
  have e0:=I1.env0
  have e1:Env0 X.prog X.w X.K X.mg X.base X.A X.stack s1 H1:=⟨e0.frames,e0.mod,e0.bs,e0.bsz,e0.funs,e0.frf,e0.hok,e0.bare⟩
  have pn:zu6 p oe X.stack s1 H1:=by
   refine ⟨pin.1,pin.2.1,fun z=>?_,pin.2.2.2.2⟩
   rcases I1.ok.stk with q | ⟨q,q2⟩
   ·rw [show X.stack=X.outer from q] at z;exact pin.2.2.2.1 z
   ·rw [show X.stack=X.env :: X.outer from q] at z
    have q2:X.env.frame=some X.env.locals:=q2
    unfold frs at z
    rw [List.filterMap_cons,q2] at z
    rcases List.mem_cons.mp z with y | y
    ·exact pin.2.2.1 y
    ·exact pin.2.2.2.1 y
  refine wpAny_call (codeAny_mono (R X.A X.stack s1 H1 ⟨us,[]⟩ us vs Q E0 hr e1 hb' r pn q) fun r s' hq=>?_)
  cases r with
  | error ev=>exact False.elim hq
  | ok fl =>
   cases fl with
   | ret u=>exact I1.after hq
   | next=>exact False.elim hq
   | brk=>exact False.elim hq
   | cont=>exact False.elim hq
 ·refine s1 G ι Ω H σ ρ _ w r (Post.mb h fun as Ω1 vs H1 G1 ι1 x1 w1 d1 h1=>?_)
  unfold noX zaq at h1
  rw [List.append_nil]
  by_cases hl:as.length=ps.length
  ·rw [if_pos hl] at h1
   refine ⟨by rw [d1.length];exact hl,G1,ι1,Ω1,as,w1,d1,?_⟩
   revert h1
   generalize F as Ω1=q2
   intro h1
   match q2,h1 with
   | some (.ok a,Ω2),h1=>exact h1
  ·rw [if_neg hl] at h1
   exact False.elim h1
end
end V2
namespace V2
open PySem PySem.Spec PyProof.Rows L2
abbrev HF:=Addr→Addr→Exc→MS
def hNil:Str→Option HF:=fun _=>none
def zhb (rs ns:List Str) (y:Str) (fh:HF) (g:Str→Option HF):Str→Option HF:=fun z=>match xtab rs ns z y with
 | some true=>some fh
 | some false=>g z
 | none=>none
def VH (X:Cx) (i:Nat) (hs:List ExceptHandler) (g:Str→Option HF):Prop:=∃ th,PH X hs th∧∀ (e:Exc) (fh:HF),g e.cls=some fh→∀ (x:Addr) (cls:Value) (dx:Option Addr) (D:Ends) (σ:L2.St) (H:Hp),
 (∃ E,PySem.W.nsIn X.K mainGlobals e.cls=some (some (.ref E))∧cls = .ref E)→(∃ d,zqZ e d dx∧zqF X.K noW (fh x d e) (D.drop i) (σ.set i (some (.ref x))) H)→th x cls dx D σ H
theorem zuF {X:Cx} {i:Nat}:VH X i [] hNil:=⟨tNoH,zvf,fun _ _ h=>by cases h⟩
theorem zkr {X:Cx} {i:Nat} {n y:Str} {np hpos:Pos} {b₀:Stmt} {suite:List Stmt} {rest:List ExceptHandler} {rs ns:List Str} {fh:HF} {g:Str→Option HF} (t:Top1 X) (c:ClsN X.K X.mg y) (hg:Gl X y) (hT:XTab X.K rs ns) (hN:X.N.Nodup) (hi:X.N[i]? = some n) (hl:X.env.scope.names.lookup n=some .local)
  (hh:∀ (p:Addr) (oe:Obj) (d:Addr) (e:Exc),Cau X.K oe d e→VSs (X.zcX p oe) noW (b₀ :: suite) (fh p d e)) (hr:VH X i rest g)
  (hdb:(y == ("__debug__" : Str))=false:=by decide):VH X i (.ExceptHandler (some (.Name y np)) (some n) (b₀ :: suite) hpos :: rest) (zhb rs ns y fh g):=by
 obtain ⟨C,h0,h1,h2⟩:=c
 obtain ⟨th,p1,p2⟩:=hr
 refine ⟨_,zvV t h0 hg h1 hN hi hl (ts:=fun x cls dx D σ H=>∃ (e:Exc) (d:Addr),(∃ E,PySem.W.nsIn X.K mainGlobals e.cls=some (some (.ref E))∧cls = .ref E)∧zqZ e d dx∧zqF X.K noW (fh x d e) D σ H) (fun x oe hf=>?_) p1 hdb,?_⟩
 ·intro pins sh σ H D I ⟨e,d,he,hd,q⟩
  exact (hh x oe d e ⟨hf,he,hd⟩).can pins sh σ H D I q
 ·intro e fh' hq x cls dx D σ H hc hd
  have sub:∀ b E,xtab rs ns e.cls y=some b→PySem.W.nsIn X.K mainGlobals e.cls=some (some (.ref E))→PySem.W.subIn X.K (.ref E) (.ref C)=some b:=fun b E q hz=>by
   unfold xtab at q
   split at q
   ·rename_i hm
    rw [← q]
    exact hT.sub _ hm.1 _ hm.2 _ _ hz h2
   ·cases q
  obtain ⟨E,hE,rfl⟩:=hc
  unfold zhb at hq
  split at hq
  ·rename_i hx
   cases hq
   obtain ⟨d,hd1,hd2⟩:=hd
   refine ⟨E,true,rfl,sub _ _ hx hE,?_⟩
   rw [if_pos rfl]
   exact ⟨e,d,⟨E,hE,rfl⟩,hd1,hd2⟩
  ·rename_i hx
   refine ⟨E,false,rfl,sub _ _ hx hE,?_⟩
   rw [if_neg (by simp)]
   exact p2 e fh' hq x _ dx D σ H ⟨E,hE,rfl⟩ hd
  ·cases hq
open Classical in
noncomputable def zmo (i:Nat) (g:Str→Option HF) (fb:MS):MS:=fun ρ Ω=>match fb ρ Ω with
 | some (.exc e,ρ1,Ω1)=>(match g e.cls with
  | some fh=>if hr:∃ r,∀ p d,zlT i (fh p d e (ρ1.set i (some (exA p d e))) Ω1)=some r then some (Classical.choose hr) else none
  | none=>none)
 | r=>r
theorem ztm {i:Nat} {g:Str→Option HF} {fb:MS} {fh:HF} {ρ ρ1:Ev} {Ω Ω1:Sto} {e:Exc} {r:Out × Ev × Sto} (h:fb ρ Ω=some (.exc e,ρ1,Ω1)) (hs:g e.cls=some fh) (hr:∀ p d,zlT i (fh p d e (ρ1.set i (some (exA p d e))) Ω1)=some r):zmo i g fb ρ Ω=some r:=by
 have hx:∃ r,∀ p d,zlT i (fh p d e (ρ1.set i (some (exA p d e))) Ω1)=some r:=⟨r,hr⟩
 have e1:=Classical.choose_spec hx 0 0
 rw [hr 0 0] at e1
 simp only [zmo,h,hs]
 rw [dif_pos hx,← e1]
theorem ztR {i:Nat} {g:Str→Option HF} {fb:MS} {ρ ρ1:Ev} {Ω Ω1:Sto} (h:fb ρ Ω=some (.nx,ρ1,Ω1)):zmo i g fb ρ Ω=some (.nx,ρ1,Ω1):=by simp only [zmo,h]
theorem zsp {X:Cx} {W:WX} {i:Nat} {pos:Pos} {body:List Stmt} {h0:ExceptHandler} {hs:List ExceptHandler} {fb:MS} {g:Str→Option HF} (t:Top1 X) (hx:X.ex=[])
  (hb:∀ W,VSs0 (X.wish (XE X W)) W body fb) (hv:VH X i (h0 :: hs) g):VS0 X W (.Try body (h0 :: hs) [] [] pos) (zmo i g fb):=by
 obtain ⟨th,p1,p2⟩:=hv
 refine ⟨_,zuC t hx (tb:=fun W=>zqF X.K W fb) (fun W=>(hb W).can) p1,?_⟩
 intro G ι Ω H σ ρ D w r h
 refine ⟨G,ι,Ω,ρ,w,r,?_⟩
 unfold zmo at h
 revert h
 generalize fb ρ Ω=q
 intro h
 match q,h with
 | none,h=>exact h
 | some (.nx,ρ1,Ω1),h=>exact h
 | some (.bk,ρ1,Ω1),h=>exact h
 | some (.ct,ρ1,Ω1),h=>exact h
 | some (.ret a,ρ1,Ω1),h=>exact h
 | some (.exc e,ρ1,Ω1),h =>
  simp only at h
  split at h
  ·rename_i fh hs
   split at h
   ·rename_i hr
    intro σ' H' G' ι' x' w' r' cls dx hx x hxn
    obtain ⟨⟨E,hE,rfl⟩,hfs⟩:=hx
    refine p2 e fh hs x _ dx D σ' H' ⟨E,hE,rfl⟩ ?_
    have hd:∃ d,zqZ e d dx∧Den X.K G' ι' (.ref x) (exA x d e):=by
     rcases hfs with ⟨h1,rfl⟩ | ⟨d,f,i',rfl,h1,h2⟩
     ·exact ⟨0, .inl ⟨h1,rfl⟩,by unfold exA;rw [h1];simp only [Den]⟩
     ·exact ⟨d, .inr ⟨by rw [h1];simp,rfl⟩,by unfold exA;rw [h1];simp only [Den];exact ⟨trivial,h2⟩⟩
    obtain ⟨d,hd1,hd2⟩:=hd
    refine ⟨d,hd1,G',ι',Ω1,ρ1.set i (some (exA x d e)),w',r'.set i hd2,?_⟩
    have hq:=Classical.choose_spec hr x d
    revert hq h
    generalize Classical.choose hr=rr
    generalize fh x d e (ρ1.set i (some (exA x d e))) Ω1=q2
    intro h hq
    match q2,hq with
    | some (.nx,ρ2,Ω2),hq=>cases hq;exact fun σ2 H2 G2 ι2 x2 w2 r2=>h (σ2.set i none) H2 G2 ι2 (x'.trans x2) w2 (r2.unset i none)
    | some (.bk,ρ2,Ω2),hq=>cases hq;exact fun σ2 H2 G2 ι2 x2 w2 r2=>h (σ2.set i none) H2 G2 ι2 (x'.trans x2) w2 (r2.unset i none)
    | some (.ct,ρ2,Ω2),hq=>cases hq;exact fun σ2 H2 G2 ι2 x2 w2 r2=>h (σ2.set i none) H2 G2 ι2 (x'.trans x2) w2 (r2.unset i none)
    | some (.ret a,ρ2,Ω2),hq=>cases hq;exact fun σ2 H2 G2 ι2 x2 w2 r2=>h (σ2.set i none) H2 G2 ι2 (x'.trans x2) w2 (r2.unset i none)
   ·exact False.elim h
  ·exact False.elim h
end V2
namespace M
open PySem V2
noncomputable def zbu:MS :=
 (sSeq (sIf (zaB (vOp gEq (vVar 1) (cI 0)))
   (sRet (vOp (gMod) (vVar 0) (cI 7)))
   sNx)
  (sSeq (sIf (zaB (vOp gEq (vVar 1) (cI 1)))
   (sRet (vOp (gSub) (vOp (gMod) (vVar 0) (cI 40)) (cI 20)))
   sNx)
  (sSeq (sIf (zaB (vOp gEq (vVar 1) (cI 2)))
   (sRet (vOp (gSub) (vOp (gMul) (cI 500000007) (vOp (gMod) (vVar 0) (cI 5))) (cI 3)))
   sNx)
  (sSeq (sIf (zaB (vOp gEq (vVar 1) (cI 3)))
   (sRet (vOp (gAdd false) (vOp (gMul) (vOp (gSub) (vOp (gMod) (vVar 0) (cI 1999)) (cI 999)) (vOp (gPow) (cI 10) (cI 15))) (vOp (gMod) (vOp (gDiv) (vVar 0) (cI 1999)) (cI 3))))
   sNx)
  (sRet (vOp gIx (vLst false (zac (vOp (gSub) (vOp (gSub) (cI 0) (vOp (gPow) (cI 10) (cI 59))) (cI 1)) (zac (vOp (gSub) (cI 0) (vOp (gPow) (cI 10) (cI 59))) (zac (vOp (gSub) (vOp (gPow) (cI 10) (cI 60)) (cI 8)) (zac (vOp (gSub) (vOp (gPow) (cI 10) (cI 60)) (cI 9)) (zac (cI 0) a0)))))) (vOp (gMod) (vVar 0) (cI 5))))))))
noncomputable def zaV:List A→Mo A:=fnF 2 zbu
noncomputable def zgr:Ev→Mo A :=
 (vLC false 2 [1] (vSeq (vVar 0)) (zbl 2 (zak (gN 0) (zak (gN 1) zbo))) (zaB (vOp gLe (vVar 0) (vVar 2))) (vVar 1))
noncomputable def zgN:MS :=
 (sRet (vCl gSum (zac zgr a0)))
noncomputable def ze0:List A→Mo A:=fnF 2 zgN
noncomputable def zfn:Ev→Mo A :=
 (vLC false 2 [1] (vSeq (vVar 0)) (zbl 2 (zak (gN 0) (zak (gN 1) zbo))) (zaB (vOp gLt (vVar 0) (vVar 2))) (vVar 1))
noncomputable def zfv:MS :=
 (sRet (vCl gSum (zac zfn a0)))
noncomputable def zen:List A→Mo A:=fnF 2 zfv
noncomputable def zhZ:MS :=
 (sSeq (sAsg (vOp gIx (vOp gIx (vVar 0) (cI 3)) (vVar 1)) (zbl 3 (zak (gN 2) (zak (gN 3) (zak (gN 4) zbo)))))
  (sSeq (sIf (vOrT (zmw (zaB (vOp gEq (vVar 1) (cI 0))) (zaB (vOp gNe (vTup (zac (vVar 3) (zac (vVar 4) a0))) (vTup (zac (cI 1) (zac (cI 1) a0)))))) (zmw (zaB (vOp gEq (vVar 1) (vOp (gSub) (vCl gLen (zac (vOp gIx (vVar 0) (cI 3)) a0)) (cI 1)))) (zaB (vOp gNe (vTup (zac (vVar 3) (zac (vVar 4) a0))) (vTup (zac (vOp gIx (vVar 0) (cI 0)) (zac (vOp gIx (vVar 0) (cI 0)) a0)))))))
   (sRet (cB false))
   sNx)
  (sRet (vAnd (vOp gLe (vVar 3) (vVar 4)) (vOp gLe (vOp (gSub) (vVar 4) (vVar 3)) (vOp gIx (vVar 0) (cI 1)))))))
noncomputable def zcP:List A→Mo A:=fnF 5 zhZ
noncomputable def zbf:MS :=
 (sSeq (sAsg (vOp gIx (vOp gIx (vVar 0) (cI 3)) (vVar 1)) (zbl 3 (zak (gN 2) (zak (gN 3) (zak (gN 4) zbo)))))
  (sSeq (sAsg (vOp gIx (vOp gIx (vVar 0) (cI 3)) (vOp (gSub) (vVar 1) (cI 1))) (zbl 3 (zak (gN 5) (zak (gN 6) (zak (gN 7) zbo)))))
  (sSeq (sIf (vOrT (zaB (vOp gLt (vVar 2) (vVar 5))) (vOrT (zaB (vOp gLe (vVar 3) (vVar 6))) (zaB (vOp gLe (vVar 4) (vVar 7)))))
   (sRet (cB false))
   sNx)
  (sRet (vOr (vOp gEq (vVar 2) (vVar 5)) (vOp gLe (vOp (gSub) (vVar 4) (vVar 6)) (vOp (gAdd false) (vOp gIx (vVar 0) (cI 1)) (cI 1))))))))
noncomputable def zaP:List A→Mo A:=fnF 8 zbf
noncomputable def za6:MS :=
 (sSeq (sAsg (vOp (gAdd false) (vVar 1) (vOp gIx (vVar 3) (cI 1))) (gN 1))
   (sIf (vOrT (zaB (vOp gLt (vOp gIx (vVar 3) (cI 1)) (cI 1))) (zaB (vOp gGt (vVar 1) (vOp (gPow) (cI 10) (cI 9)))))
    (sRet (vVar 2))
    sNx))
noncomputable def zdF:MS :=
 (sSeq (sAsg (cI 0) (gN 1))
  (sSeq (sFor (zgK (vVar 0)) (zbl 2 (zak (gN 2) (zak (gN 3) zbo))) za6)
  (sRet cN)))
noncomputable def zct:List A→Mo A:=fnF 4 zdF
noncomputable def za1:MS :=
 (sSeq (sAsg (vOp (gMod) (vOp (gDiv) (vVar 1) (cI 3)) (vOp (gAdd false) (vCl gLen (zac (vVar 0) a0)) (cI 1))) (gN 2))
  (sSeq (sIf (zaB (vOp gEq (vOp (gMod) (vVar 1) (cI 3)) (cI 0)))
   (sRet (vOp (gAdd false) (vOp (gAdd false) (vSl false (vVar 0) sl0 (zfl (vVar 2))) (vLst false (zac (vTup (zac (vOp (gMod) (vVar 1) (cI 7)) (zac (vOp gIx (vLst false (zac (cI 0) (zac (vOp (gSub) (cI 0) (cI 1)) (zac (vOp (gSub) (cI 0) (vVar 1)) a0)))) (vOp (gMod) (vOp (gDiv) (vVar 1) (cI 90)) (cI 3))) a0))) a0))) (vSl false (vVar 0) (zfl (vVar 2)) sl0)))
   sNx)
  (sSeq (sIf (zaB (vOp gEq (vOp (gMod) (vVar 1) (cI 3)) (cI 1)))
   (sRet (vOp (gAdd false) (vOp (gAdd false) (vSl false (vVar 0) sl0 (zfl (vVar 2))) (vLst false (zac (vTup (zac (vOp (gMod) (vVar 1) (cI 7)) (zac (vOp (gAdd false) (vOp (gPow) (cI 10) (cI 9)) (vOp (gMod) (vOp (gDiv) (vVar 1) (cI 90)) (cI 2))) a0))) a0))) (vSl false (vVar 0) (zfl (vVar 2)) sl0)))
   sNx)
  (sRet (vOp (gAdd false) (vOp (gAdd false) (vSl false (vVar 0) sl0 (zfl (vVar 2))) (vLst false (zac (vTup (zac (vOp (gMod) (vVar 1) (cI 7)) (zac (cI 1) a0))) a0))) (vSl false (vVar 0) (zfl (vVar 2)) sl0))))))
noncomputable def zbw:List A→Mo A:=fnF 3 za1
noncomputable def zbM:MS :=
 (sSeq (sAsg (vOp gIx (vOp gIx (vVar 0) (cI 3)) (vVar 1)) (zbl 3 (zak (gN 3) (zak (gN 4) (zak (gN 5) zbo)))))
  (sSeq (sAsg (vOp gIx (vOp gIx (vVar 0) (cI 3)) (vOp (gSub) (vVar 1) (cI 1))) (zbl 3 (zak (gN 6) (zak (gN 7) (zak (gN 8) zbo)))))
  (sSeq (sAsg (vOp (gAdd false) (cI 1) (vOp (gMod) (vOp (gDiv) (vVar 2) (cI 9)) (cI 3))) (gN 9))
  (sSeq (sAsg (vOp (gMod) (vVar 2) (cI 9)) (gN 10))
  (sSeq (sIf (zaB (vOp gEq (vVar 10) (cI 0)))
   (sRet (vTup (zac (vOp (gSub) (vVar 6) (cI 1)) (zac (vVar 4) (zac (vVar 5) a0)))))
   sNx)
  (sSeq (sIf (zaB (vOp gEq (vVar 10) (cI 1)))
   (sRet (vTup (zac (vOp (gAdd false) (vVar 3) (vOp gIx (vLst false (zac (cI 1) (zac (vOp (gSub) (cI 0) (cI 1)) a0))) (vOp (gMod) (vOp (gDiv) (vVar 2) (cI 27)) (cI 2)))) (zac (vVar 4) (zac (vVar 5) a0)))))
   sNx)
  (sSeq (sIf (zaB (vOp gEq (vVar 10) (cI 2)))
   (sRet (vTup (zac (vVar 3) (zac (vVar 7) (zac (vVar 5) a0)))))
   sNx)
  (sSeq (sIf (zaB (vOp gEq (vVar 10) (cI 3)))
   (sRet (vTup (zac (vVar 3) (zac (vVar 4) (zac (vVar 8) a0)))))
   sNx)
  (sSeq (sIf (zaB (vOp gEq (vVar 10) (cI 4)))
   (sRet (vTup (zac (vVar 3) (zac (vOp (gAdd false) (vVar 5) (cI 1)) (zac (vVar 5) a0)))))
   sNx)
  (sSeq (sIf (zaB (vOp gEq (vVar 10) (cI 5)))
   (sRet (vTup (zac (vVar 3) (zac (vOp (gAdd false) (vVar 4) (vVar 9)) (zac (vOp (gAdd false) (vVar 5) (vVar 9)) a0)))))
   sNx)
  (sSeq (sIf (zaB (vOp gEq (vVar 10) (cI 6)))
   (sRet (vTup (zac (vVar 3) (zac (vOp (gSub) (vVar 4) (vVar 9)) (zac (vOp (gSub) (vVar 5) (vVar 9)) a0)))))
   sNx)
  (sSeq (sIf (zaB (vOp gEq (vVar 10) (cI 7)))
   (sRet (vTup (zac (vVar 3) (zac (vVar 5) (zac (vVar 5) a0)))))
   sNx)
  (sRet (vTup (zac (vVar 3) (zac (vVar 4) (zac (vVar 4) a0)))))))))))))))))
noncomputable def zbE:List A→Mo A:=fnF 11 zbM
noncomputable def zeC (p:Addr) (e:Exc):MS :=
 (sSeq (sIf (vOrT (zh3 (zaB (vCl (zjR p (xtab ["NoPouch", "NoSize", "NoRow", "Wrong"] ["RankError", "NoRow", "NoPlace", "NoPouch", "NoSize", "Wrong", "NoTimes", "Unlike", "NoText"] e.cls) (xtt ["NoPouch", "NoSize", "NoRow", "Wrong"] e.cls)) (zac (vVar 0) (zac (cG "RankError") a0))))) (zh3 (zaB (vCl (zjR p (xtab ["NoPouch", "NoSize", "NoRow", "Wrong"] ["RankError", "NoRow", "NoPlace", "NoPouch", "NoSize", "Wrong", "NoTimes", "Unlike", "NoText"] e.cls) (xtt ["NoPouch", "NoSize", "NoRow", "Wrong"] e.cls)) (zac (vVar 0) (zac (cT "ValueError") a0))))))
   (sRet (cB true))
   sNx)
  (sRet (vCl (zjR p (xtab ["NoPouch", "NoSize", "NoRow", "Wrong"] ["RankError", "NoRow", "NoPlace", "NoPouch", "NoSize", "Wrong", "NoTimes", "Unlike", "NoText"] e.cls) (xtt ["NoPouch", "NoSize", "NoRow", "Wrong"] e.cls)) (zac (vVar 0) (zac (vTup (zac (cG "NoPlace") (zac (cG "NoText") (zac (cG "NoTimes") (zac (cG "Unlike") a0))))) a0)))))
noncomputable def za8 (p:Addr) (e:Exc):List A→Mo A:=fnF 1 (zeC p e)
noncomputable def zaK:MS :=
 (sIf (vOrT (zh3 (zaB (vCl (zaq 2 zcP) (zac (vVar 0) (zac (vVar 5) a0))))) (zmw (zaB (vOp gGt (vVar 5) (cI 0))) (zh3 (zaB (vCl (zaq 2 zaP) (zac (vVar 0) (zac (vVar 5) a0)))))))
    (sRet (vVar 5))
    sNx)
noncomputable def zdC:MS :=
 (sSeq (sAsg (vVar 0) (zbl 4 (zak (gN 1) (zak (gN 2) (zak (gN 3) (zak (gN 4) zbo))))))
  (sSeq (sIf (vOrT (zaB (vOp gLt (vVar 1) (cI 0))) (vOrT (zaB (vOp gLt (vVar 2) (cI 0))) (vOrT (zaB (vOp gLt (vVar 3) (cI 0))) (zaB (vOp gNe (vOp gEq (vVar 4) (vLst false a0)) (vOp gEq (vVar 1) (cI 0)))))))
   (sRet (cI 0))
   sNx)
  (sSeq (sFor (zi2 (zac (vCl gLen (zac (vVar 4) a0)) a0)) (gN 5) zaK)
  (sRet cN))))
noncomputable def zbU:List A→Mo A:=fnF 6 zdC
noncomputable def zb5:MS :=
 (sSeq (sAsg (vVar 4) (zbl 3 (zak (gN 5) (zak (gN 6) (zak (gN 7) zbo)))))
   (sSeq (sAsg (vCl zrj (zac (vOp (gAdd false) (vVar 2) (cI 1)) (zac (vVar 6) (zac (vOp (gAdd false) (vCl (zaq 2 zen) (zac (vVar 0) (zac (vVar 5) a0))) (cI 1)) a0)))) (gN 2))
   (sIf (zaB (vOp gGt (vVar 2) (vCl zof (zac (vVar 7) (zac (vCl (zaq 2 ze0) (zac (vVar 0) (zac (vVar 5) a0))) a0)))))
    (sRet (vVar 3))
    sNx)))
noncomputable def zfz:MS :=
 (sSeq (sAsg (cI 0) (gN 2))
  (sSeq (sFor (zgK (vOp gIx (vVar 1) (cI 3))) (zbl 2 (zak (gN 3) (zak (gN 4) zbo))) zb5)
  (sRet cN)))
noncomputable def zdH:List A→Mo A:=fnF 8 zfz
noncomputable def zbK:MS :=
 (sSeq (sAsg (vVar 0) (zbl 4 (zak (gN 2) (zak (gN 3) (zak (gN 4) (zak (gN 5) zbo))))))
  (sSeq (sAsg (vOp (gMod) (vVar 1) (cI 10)) (gN 6))
  (sSeq (sAsg (vOp (gDiv) (vVar 1) (cI 10)) (gN 7))
  (sSeq (sIf (zaB (vOp gEq (vVar 6) (cI 0)))
   (sRet (vOp gIx (vLst false (zac (vTup (zac (vOp (gSub) (cI 0) (cI 1)) (zac (vVar 3) (zac (vVar 4) (zac (vVar 5) a0))))) (zac (vTup (zac (vVar 2) (zac (vOp (gSub) (cI 0) (cI 1)) (zac (vVar 4) (zac (vVar 5) a0))))) (zac (vTup (zac (vVar 2) (zac (vVar 3) (zac (vOp (gSub) (cI 0) (cI 1)) (zac (vVar 5) a0))))) a0)))) (vOp (gMod) (vVar 7) (cI 3))))
   sNx)
  (sSeq (sIf (zaB (vOp gEq (vVar 6) (cI 1)))
   (sRet (vTup (zac (vOp (gAdd false) (vVar 2) (vOp gIx (vLst false (zac (cI 1) (zac (vOp (gSub) (cI 0) (cI 1)) (zac (vOp (gSub) (cI 0) (vVar 2)) a0)))) (vOp (gMod) (vVar 7) (cI 3)))) (zac (vVar 3) (zac (vVar 4) (zac (vVar 5) a0))))))
   sNx)
  (sSeq (sIf (vOrT (zaB (vOp gEq (vVar 6) (cI 2))) (zaB (vOp gEq (vVar 5) (vLst false a0))))
   (sRet (vTup (zac (vVar 2) (zac (vVar 3) (zac (vVar 4) (zac (vOp gIx (vLst false (zac (vLst false a0) (zac (vLst false (zac (vTup (zac (vOp (gMod) (vVar 7) (cI 7)) (zac (cI 1) (zac (cI 1) a0)))) a0)) a0))) (vCl zn0 (zac (vOp gEq (vVar 5) (vLst false a0)) a0))) a0))))))
   sNx)
  (sSeq (sIf (zaB (vOp gEq (vVar 6) (cI 3)))
   (sRet (vTup (zac (vVar 2) (zac (vCl zn6 (zac (cI 0) (zac (vOp (gSub) (vCl (zaq 1 zcS) (zac (vVar 5) a0)) (cI 1)) a0))) (zac (vVar 4) (zac (vVar 5) a0))))))
   sNx)
  (sSeq (sAsg (vOp (gMod) (vVar 7) (vCl gLen (zac (vVar 5) a0))) (gN 8))
  (sSeq (sIf (zaB (vOp gEq (vVar 6) (cI 4)))
   (sRet (vTup (zac (vVar 2) (zac (vVar 3) (zac (vVar 4) (zac (vOp (gAdd false) (vSl false (vVar 5) sl0 (zfl (vVar 8))) (vSl false (vVar 5) (zfl (vOp (gAdd false) (vVar 8) (cI 1))) sl0)) a0))))))
   sNx)
  (sSeq (sIf (zaB (vOp gEq (vVar 6) (cI 5)))
   (sSeq (sAsg (vOp gIx (vVar 5) (vVar 8)) (zbl 3 (zak (gN 9) (zak (gN 10) (zak (gN 11) zbo)))))
   (sSeq (sAsg (vTup (zac (vVar 9) (zac (vOp (gAdd false) (vVar 10) (vOp (gMod) (vOp (gDiv) (vVar 7) (cI 40)) (cI 2))) (zac (vOp (gAdd false) (vVar 11) (vOp (gMod) (vOp (gDiv) (vVar 7) (cI 80)) (cI 2))) a0)))) (gN 12))
   (sRet (vTup (zac (vVar 2) (zac (vVar 3) (zac (vVar 4) (zac (vOp (gAdd false) (vOp (gAdd false) (vSl false (vVar 5) sl0 (zfl (vVar 8))) (vLst false (zac (vOp gIx (vVar 5) (vVar 8)) (zac (vVar 12) a0)))) (vSl false (vVar 5) (zfl (vOp (gAdd false) (vVar 8) (cI 1))) sl0)) a0))))))))
   sNx)
  (sSeq (sIf (zaB (vOp gEq (vVar 6) (cI 6)))
   (sSeq (sAsg (vOp gIx (vLst false (zac (vTup (zac (cI 1) (zac (cI 2) a0))) (zac (vTup (zac (cI 0) (zac (cI 1) a0))) (zac (vTup (zac (cI 2) (zac (cI 2) a0))) (zac (vTup (zac (cI 0) (zac (cI 0) a0))) a0))))) (vOp (gMod) (vOp (gDiv) (vVar 7) (cI 40)) (cI 4))) (gN 13))
   (sRet (vTup (zac (vVar 2) (zac (vVar 3) (zac (vVar 4) (zac (vOp (gAdd false) (vLst false (zac (vOp (gAdd false) (vTup (zac (vOp gIx (vOp gIx (vVar 5) (cI 0)) (cI 0)) a0)) (vVar 13)) a0)) (vSl false (vVar 5) (zfl (cI 1)) sl0)) a0)))))))
   sNx)
  (sSeq (sIf (zaB (vOp gEq (vVar 6) (cI 7)))
   (sSeq (sAsg (vOp gIx (vLst false (zac (vTup (zac (vOp (gSub) (vVar 2) (cI 1)) (zac (vVar 2) a0))) (zac (vTup (zac (vVar 2) (zac (vOp (gAdd false) (vVar 2) (cI 1)) a0))) (zac (vTup (zac (vOp (gSub) (vVar 2) (cI 1)) (zac (vOp (gSub) (vVar 2) (cI 1)) a0))) (zac (vTup (zac (vOp (gAdd false) (vVar 2) (cI 1)) (zac (vOp (gAdd false) (vVar 2) (cI 1)) a0))) a0))))) (vOp (gMod) (vOp (gDiv) (vVar 7) (cI 40)) (cI 4))) (gN 13))
   (sRet (vTup (zac (vVar 2) (zac (vVar 3) (zac (vVar 4) (zac (vOp (gAdd false) (vSl false (vVar 5) sl0 (zfl (vNeg (cI 1)))) (vLst false (zac (vOp (gAdd false) (vTup (zac (vOp gIx (vOp gIx (vVar 5) (vNeg (cI 1))) (cI 0)) a0)) (vVar 13)) a0))) a0)))))))
   sNx)
  (sRet (vTup (zac (vVar 2) (zac (vVar 3) (zac (vVar 4) (zac (vOp (gAdd false) (vOp (gAdd false) (vSl false (vVar 5) sl0 (zfl (vVar 8))) (vLst false (zac (vCl (zaq 3 zbE) (zac (vVar 0) (zac (vVar 8) (zac (vOp (gDiv) (vVar 7) (cI 40)) a0)))) a0))) (vSl false (vVar 5) (zfl (vOp (gAdd false) (vVar 8) (cI 1))) sl0)) a0))))))))))))))))))
noncomputable def zbH:List A→Mo A:=fnF 14 zbK
noncomputable def za4:MS :=
 (sSeq (sIf (zaB (vOp (gDIn true) (vOp gIx (vVar 4) (cI 0)) (vVar 0)))
    (zgA "Wrong" "at" (zac (vVar 3) a0))
    sNx)
   (sSeq (sAsg (vOp zqO (vVar 0) (vOp gIx (vVar 4) (cI 0))) (gN 5))
   (sSeq (sAsg (vCl zrj (zac (vOp (gAdd false) (vVar 2) (cI 1)) (zac (vOp gIx (vVar 4) (cI 1)) (zac (vOp gIx (vVar 5) (cI 0)) a0)))) (gN 2))
   (sIf (vOrT (zaB (vOp gGt (vVar 2) (vOp gIx (vVar 4) (cI 2)))) (zaB (vOp gGt (vVar 2) (vOp gIx (vVar 5) (cI 1)))))
    (zgA "Wrong" "at" (zac (vVar 3) a0))
    sNx))))
noncomputable def zcw:MS :=
 (sSeq (sAsg (cI 0) (gN 2))
  (sFor (zgK (vVar 1)) (zbl 2 (zak (gN 3) (zak (gN 4) zbo))) za4))
noncomputable def zcx:List A→Mo A:=fnF 6 zcw
noncomputable def zcu:MS :=
 (sSeq (sAsg (vCl (zaq 2 zaQ) (zac (vCl (zaq 2 zbq) (zac (vVar 0) (zac (vVar 5) a0))) (zac (vVar 5) a0))) (gN 6))
   (sExp (vBM ziV (vVar 4) (zac (vTup (zac (vCl (zaq 2 zaV) (zac (vCl (zaq 2 zaQ) (zac (vVar 6) (zac (cI 1) a0))) (zac (vVar 3) a0))) (zac (vCl (zaq 1 zca) (zac (vCl (zaq 2 zaQ) (zac (vVar 6) (zac (cI 2) a0))) a0)) a0))) a0))))
noncomputable def zdZ:MS :=
 (sSeq (sAsg (vOp (gMod) (vCl (zaq 2 zaQ) (zac (vCl (zaq 2 zbq) (zac (vVar 0) (zac (cI 0) a0))) (zac (cI 3) a0))) (cI 5)) (gN 3))
  (sSeq (sAsg (vLst true a0) (gN 4))
  (sSeq (sFor (zqK (zac (vVar 1) (zac (vCl zof (zac (vCl gLen (zac (vVar 0) a0)) (zac (vOp (gAdd false) (vVar 1) (vVar 2)) a0))) a0))) (gN 5) zcu)
  (sRet (vFrz 4)))))
noncomputable def zc7:List A→Mo A:=fnF 7 zdZ
noncomputable def zfi:Ev→Mo A :=
 (vLC false 2 [] (vSeq (vVar 0)) (zbl 2 (zak (gN 0) (zak (gN 1) zbo))) yesM (vVar 1))
noncomputable def zeY:MS :=
 (sSeq (sIf (zaB (vOp (gIsN true) (vCl (zaq 1 zct) (zac (vVar 0) a0)) cN))
   (sRet (vLst false (zac (cS "row") (zac (vCl (zaq 1 zct) (zac (vVar 0) a0)) a0))))
   sNx)
  (sSeq (sIf (zaB (vOp (gIsN true) (vCl (zaq 1 zbU) (zac (vVar 1) a0)) cN))
   (sRet (vLst false (zac (cS "pouch") (zac (vCl (zaq 1 zbU) (zac (vVar 1) a0)) a0))))
   sNx)
  (sSeq (sIf (zaB (vOp gNe (vOp gIx (vVar 1) (cI 0)) (vCl gSum (zac zfi a0))))
   (sRet (vLst false (zac (cS "size") (zac (cI 0) a0))))
   sNx)
  (sSeq (sIf (zaB (vOp (gIsN true) (vCl (zaq 2 zdH) (zac (vVar 0) (zac (vVar 1) a0))) cN))
   (sRet (vLst false (zac (cS "wrong") (zac (vCl (zaq 2 zdH) (zac (vVar 0) (zac (vVar 1) a0))) a0))))
   sNx)
  (sRet (vLst false (zac (cS "good") (zac (cI 0) a0))))))))
noncomputable def zd2:List A→Mo A:=fnF 2 zeY
noncomputable def zhD:MS :=
 (sSeq (sAsg (vCl (zaq 1 zgg) (zac (vVar 0) a0)) (gN 2))
  (sSeq (sExp (vCl (zaq 1 zb9) (zac (vVar 1) a0)))
  (sSeq (sIf (zaB (vOp gNe (vOp gIx (vVar 1) (cI 0)) (vVar 2)))
   (zpT "NoSize" (zac (cS "the size is not the row's length") a0))
   sNx)
  (sSeq (sExp (vCl (zaq 2 zcx) (zac (vCl (zaq 1 ze7) (zac (vVar 0) a0)) (zac (vOp gIx (vVar 1) (cI 3)) a0))))
  (sRet (cB true))))))
noncomputable def zgd:List A→Mo A:=fnF 3 zhD
noncomputable def zbI:Addr→Addr→Exc→MS :=
 fun p d e=>(sAsg (vLst false (zac (cS "row") (zac (gXAt p d e ["NoPouch", "NoRow", "Wrong"] "at" (vVar 5)) (zac (vOr (vCl (noX (zaq 1 (za8 p e))) (zac (vVar 5) a0)) (vCl (zjR p (xtab ["NoPouch", "NoSize", "NoRow", "Wrong"] ["RankError", "NoRow", "NoPlace", "NoPouch", "NoSize", "Wrong", "NoTimes", "Unlike", "NoText"] e.cls) (xtt ["NoPouch", "NoSize", "NoRow", "Wrong"] e.cls)) (zac (vVar 5) (zac (vTup (zac (cG "NoPouch") (zac (cG "NoSize") (zac (cG "Wrong") a0)))) a0)))) a0)))) (gN 3))
noncomputable def zbF:Addr→Addr→Exc→MS :=
 fun p d e=>(sAsg (vLst false (zac (cS "pouch") (zac (gXAt p d e ["NoPouch", "NoRow", "Wrong"] "at" (vVar 5)) (zac (vOr (vCl (noX (zaq 1 (za8 p e))) (zac (vVar 5) a0)) (vCl (zjR p (xtab ["NoPouch", "NoSize", "NoRow", "Wrong"] ["RankError", "NoRow", "NoPlace", "NoPouch", "NoSize", "Wrong", "NoTimes", "Unlike", "NoText"] e.cls) (xtt ["NoPouch", "NoSize", "NoRow", "Wrong"] e.cls)) (zac (vVar 5) (zac (vTup (zac (cG "NoRow") (zac (cG "NoSize") (zac (cG "Wrong") a0)))) a0)))) a0)))) (gN 3))
noncomputable def zbL:Addr→Addr→Exc→MS :=
 fun p d e=>(sAsg (vLst false (zac (cS "size") (zac (cI 0) (zac (vOr (vCl (noX (zaq 1 (za8 p e))) (zac (vVar 5) a0)) (vCl (zjR p (xtab ["NoPouch", "NoSize", "NoRow", "Wrong"] ["RankError", "NoRow", "NoPlace", "NoPouch", "NoSize", "Wrong", "NoTimes", "Unlike", "NoText"] e.cls) (xtt ["NoPouch", "NoSize", "NoRow", "Wrong"] e.cls)) (zac (vVar 5) (zac (vTup (zac (cG "NoRow") (zac (cG "NoPouch") (zac (cG "Wrong") a0)))) a0)))) a0)))) (gN 3))
noncomputable def zbG:Addr→Addr→Exc→MS :=
 fun p d e=>(sAsg (vLst false (zac (cS "wrong") (zac (gXAt p d e ["NoPouch", "NoRow", "Wrong"] "at" (vVar 5)) (zac (vOr (vCl (noX (zaq 1 (za8 p e))) (zac (vVar 5) a0)) (vCl (zjR p (xtab ["NoPouch", "NoSize", "NoRow", "Wrong"] ["RankError", "NoRow", "NoPlace", "NoPouch", "NoSize", "Wrong", "NoTimes", "Unlike", "NoText"] e.cls) (xtt ["NoPouch", "NoSize", "NoRow", "Wrong"] e.cls)) (zac (vVar 5) (zac (vTup (zac (cG "NoRow") (zac (cG "NoPouch") (zac (cG "NoSize") a0)))) a0)))) a0)))) (gN 3))
noncomputable def zbv:MS :=
 (sAsg (vCl (zaq 2 zgd) (zac (vOp gIx (vVar 2) (cI 0)) (zac (vOp gIx (vVar 2) (cI 1)) a0))) (gN 4))
noncomputable def zbP:MS :=
 (sSeq (sAsg (vTup (zac (vCl (zoh false) (zac (vVar 0) a0)) (zac (vOp (gAdd false) (vSl false (vVar 1) sl0 (zfl (cI 3))) (vTup (zac (vCl (zoh false) (zac (vOp gIx (vVar 1) (cI 3)) a0)) a0))) a0))) (gN 2))
  (sSeq (sAsg cN (gN 3))
  (sSeq (sAsg cN (gN 4))
  (sSeq (zmo 5 (zhb ["NoPouch", "NoSize", "NoRow", "Wrong"] ["RankError", "NoRow", "NoPlace", "NoPouch", "NoSize", "Wrong", "NoTimes", "Unlike", "NoText"] "NoRow" zbI (zhb ["NoPouch", "NoSize", "NoRow", "Wrong"] ["RankError", "NoRow", "NoPlace", "NoPouch", "NoSize", "Wrong", "NoTimes", "Unlike", "NoText"] "NoPouch" zbF (zhb ["NoPouch", "NoSize", "NoRow", "Wrong"] ["RankError", "NoRow", "NoPlace", "NoPouch", "NoSize", "Wrong", "NoTimes", "Unlike", "NoText"] "NoSize" zbL (zhb ["NoPouch", "NoSize", "NoRow", "Wrong"] ["RankError", "NoRow", "NoPlace", "NoPouch", "NoSize", "Wrong", "NoTimes", "Unlike", "NoText"] "Wrong" zbG hNil)))) zbv)
  (sSeq (sIf (vOrT (zaB (vOp gNe (vOp gIx (vVar 2) (cI 0)) (vVar 0))) (zaB (vOp gNe (vOp gIx (vVar 2) (cI 1)) (vVar 1))))
   (sRet cN)
   sNx)
  (sSeq (sIf (zaB (vOp (gIsN false) (vVar 3) cN))
   (sRet (vLst false (zac (cS "good") (zac (vCl zn0 (zac (vOp (gIsB true) (vVar 4) (cB true)) a0)) a0))))
   sNx)
  (sSeq (sIf (vOrT (zaB (vCl gIs1 (zac (vOp gIx (vVar 3) (cI 1)) (zac (cT "bool") a0)))) (zaB (vOp gIx (vVar 3) (cI 2))))
   (sRet cN)
   sNx)
  (sRet (vSl false (vVar 3) sl0 (zfl (cI 2)))))))))))
noncomputable def zbO:List A→Mo A:=noX (fnF 6 zbP)
noncomputable def zeo:MS :=
 (sSeq (sAsg (vCl (zaq 2 zaQ) (zac (vCl (zaq 2 zbq) (zac (vVar 0) (zac (cI 2) a0))) (zac (vOp (gAdd false) (cI 20) (vVar 5)) a0))) (gN 6))
   (sIf (zaB (vOp gEq (vOp (gMod) (vVar 6) (cI 5)) (cI 0)))
    (sAsg (vCl (zaq 2 zbw) (zac (vVar 3) (zac (vOp (gDiv) (vVar 6) (cI 5)) a0))) (gN 3))
    (sAsg (vCl (zaq 2 zbH) (zac (vVar 4) (zac (vOp (gDiv) (vVar 6) (cI 5)) a0))) (gN 4))))
noncomputable def zfJ:MS :=
 (sIf (vOrT (zaB (vOp gNe (vCl (zaq 2 zbO) (zac (vVar 3) (zac (vVar 4) a0))) (vVar 7))) (zaB (vOp gNe (vCl (zaq 2 zbO) (zac (vVar 1) (zac (vVar 2) a0))) (vLst false (zac (cS "good") (zac (cI 0) a0))))))
    (sRet (cB false))
    sNx)
noncomputable def zja:MS :=
 (sSeq (sAsg (vCl (zaq 3 zc7) (zac (vVar 0) (zac (cI 3) (zac (cI 30) a0)))) (gN 1))
  (sSeq (sAsg (vCl (zaq 2 zer) (zac (vVar 1) (zac (vCl (zaq 2 zbq) (zac (vVar 0) (zac (cI 1) a0))) a0))) (gN 2))
  (sSeq (sAsg (vVar 1) (gN 3))
  (sSeq (sAsg (vVar 2) (gN 4))
  (sSeq (sFor (zi2 (zac (vOp (gAdd false) (cI 1) (vOp (gMod) (vCl (zaq 2 zbq) (zac (vVar 0) (zac (cI 2) a0))) (cI 3))) a0)) (gN 5) zeo)
  (sSeq (sAsg (vCl (zaq 2 zd2) (zac (vVar 3) (zac (vVar 4) a0))) (gN 7))
  (sSeq (sFor (zi2 (zac (cI 2) a0)) (gN 8) zfJ)
  (sRet (cB true)))))))))
noncomputable def zlh:List A→Mo A:=fnF 9 zja
end M
namespace V2
open PySem L2
@[simp] theorem znG (neg:Bool) (i j:Int) (Ω:Sto):gEqB neg (.int i) (.int j) Ω=some (.ok (.bl (if neg then !(i == j) else i == j)),Ω):=by
 simp [gEqB,res,pur,eqA]
@[simp] theorem zwF (i j:Int) (Ω:Sto):gEq (.int i) (.int j) Ω=some (.ok (.bl (i == j)),Ω):=znG false i j Ω
@[simp] theorem zwN (i j:Int) (Ω:Sto):gNe (.int i) (.int j) Ω=some (.ok (.bl (!(i == j))),Ω):=znG true i j Ω
theorem zjB {i j:Int} (h0 : -18446744073709551616 < i) (h1:i < 18446744073709551616):CMul i j := .inl ⟨h0,h1⟩
theorem zvh {i j:Int} (h0 : -18446744073709551616 < j) (h1:j < 18446744073709551616):CMul i j := .inr ⟨h0,h1⟩
@[simp] theorem zwX {α:Type} (x:α) (l:List α):atI (x :: l) 0=some x:=zrB _
@[simp] theorem zwW {α:Type} (x y:α) (l:List α):atI (x :: y :: l) 1=some y:=ztX _
@[simp] theorem zwZ {α:Type} (x y z:α) (l:List α):atI (x :: y :: z :: l) 2=some z:=zli _ 2
@[simp] theorem zwY {α:Type} (x y z u:α) (l:List α):atI (x :: y :: z :: u :: l) 3=some u:=zli _ 3
end V2
namespace M
open PySem L2 V2
def mixI (c k:Int):Int :=
 ((c + 1) * (48271 + 118 * k) % 2147483629 / 977 * 16807 + (c + 1) * (48271 + 118 * k) % 2147483629 * (k * k + 7) + k) % 2147483587
theorem mix0 (c k:Int):0 ≤ mixI c k:=Int.emod_nonneg _ (by decide)
theorem mix1 (c k:Int):mixI c k < 2147483587:=Int.emod_lt_of_pos _ (by decide)
theorem zi6 (c k:Int) (Ω:Sto) (hc:0 ≤ c) (hc1:c < 8589934592) (hk:0 ≤ k) (hk1:k < 1048576):zaQ [.int c, .int k] Ω=some (.ok (.int (mixI c k)),Ω):=by
 have f0:=Int.emod_nonneg ((c + 1) * (48271 + 118 * k)) (show (2147483629:Int) ≠ 0 by decide)
 have f1:=Int.emod_lt_of_pos ((c + 1) * (48271 + 118 * k)) (show (0:Int) < 2147483629 by decide)
 have h1:CMul (c + 1) (48271 + 118 * k):=zjB (by omega) (by omega)
 have h2:CMul k k:=zjB (by omega) (by omega)
 have h3:∀ j,CMul ((c + 1) * (48271 + 118 * k) % 2147483629) j:=fun j=>zjB (by omega) (by omega)
 have h4:∀ j,CMul j 16807:=fun j=>zvh (by decide) (by decide)
 have h5:∀ j,CMul 118 j:=fun j=>zjB (by decide) (by decide)
 have h6:∀ j,CDiv j 977:=fun j=>⟨by decide,by decide⟩
 simp [zaQ,zjy,h1,h2,h3,h4,h5,h6,mixI]
def zeT (ns:List Int) (k:Int):Int:=mixI (if k < ns.length then ns[k.toNat]?.getD 0 % 2147483647 else 0) (k + 101)
theorem zrI (ns:List Int) (k:Int):0 ≤ zeT ns k:=mix0 _ _
theorem zrG (ns:List Int) (k:Int):zeT ns k < 2147483587:=mix1 _ _
theorem zng (ns:List Int) (k:Int) (Ω:Sto) (hk:0 ≤ k) (hk1:k < 1000000):zbq [.scr ns, .int k] Ω=some (.ok (.int (zeT ns k)),Ω):=by
 by_cases h:k < (ns.length:Int)
 ·obtain ⟨n,rfl⟩:=Int.eq_ofNat_of_zero_le hk
  have hn:n < ns.length:=by omega
  have e:atI (ns.map A.int) (n:Int)=some (.int ns[n]):=by rw [zde];simp [hn]
  have f0:=Int.emod_nonneg ns[n] (show (2147483647:Int) ≠ 0 by decide)
  have f1:=Int.emod_lt_of_pos ns[n] (show (0:Int) < 2147483647 by decide)
  have m:=fun Ω=>zi6 (ns[n] % 2147483647) (n + 101) Ω f0 (by omega) (by omega) (by omega)
  simp [zbq,zgE,h,e,m,zeT,hn]
 ·have m:=fun Ω=>zi6 0 (k + 101) Ω (by decide) (by decide) (by omega) (by omega)
  simp [zbq,zgE,h,m,zeT]
end M
namespace V2
open PySem L2
theorem zhz {f:A→A→Bool}:∀ (xs:List A),(∀ x ∈ xs,f x x=true)→zkf f xs xs=true
 | [],_=>rfl
 | x :: xs,h=>by simp only [zkf,h x (List.mem_cons_self ..),Bool.true_and];exact zhz xs fun y hy=>h y (List.mem_cons_of_mem _ hy)
theorem znj:∀ (n:Nat) (a:A),pur n a=true→eqA n a a=true:=by
 intro n
 induction n with
 | zero=>intro a h;cases a <;> first | (simp [eqA];done) | (simp [pur] at h)
 | succ n ih =>
  intro a h
  cases a with
  | tup ds=>simp only [pur,List.all_eq_true] at h;simp only [eqA];exact zhz ds fun x hx=>ih x (h x hx)
  | lst ds=>simp only [pur,List.all_eq_true] at h;simp only [eqA];exact zhz ds fun x hx=>ih x (h x hx)
  | int i=>simp [eqA]
  | bl i=>simp [eqA]
  | str i=>simp [eqA]
  | non=>simp [eqA]
  | _=>simp [pur] at h
theorem zfN {Ω:Sto} {n:Nat} {a:A} (h:pur 8 a=true):res Ω n a=some a:=by
 cases n <;> simp [res,h]
theorem zrd {a b c:A} {Ω:Sto} (ha:res Ω 6 a=some c) (hb:res Ω 6 b=some c) (hc:pur 8 c=true):gEq a b Ω=some (.ok (.bl true),Ω):=by
 simp [gEq,gEqB,ha,hb,hc,znj 8 c hc]
abbrev E:=Int × Int × Int
def encE (e:E):A := .tup [.int e.1, .int e.2.1, .int e.2.2]
def encL (es:List E):List A:=es.map encE
@[simp] theorem zwq (n:Nat) (i:Int):pur n (.int i)=true:=by cases n <;> rfl
theorem zst (n:Nat) (ds:List A):pur (n + 1) (.tup ds)=ds.all (pur n):=rfl
theorem ztt (n:Nat) (ds:List A):pur (n + 1) (.lst ds)=ds.all (pur n):=rfl
@[simp] theorem zv0 (n:Nat) (e:E):pur (n + 1) (encE e)=true:=by simp [encE,zst]
@[simp] theorem zq6 (n:Nat) (es:List E):(encL es).all (pur (n + 1))=true:=by simp [encL]
def encP (s l d:Int) (es:List E):A := .tup [.int s, .int l, .int d, .lst (encL es)]
@[simp] theorem zvZ (es:List E):(encL es).length=es.length:=by simp [encL]
end V2
namespace M
open PySem L2 V2
end M
namespace M
open PySem L2 V2
theorem zep (es:List E) (i:Nat):(encL es)[i]? = es[i]?.map encE:=by simp [encL]
theorem zrm {α:Type} (xs:List α) (i:Nat):atI xs (i:Int)=xs[i]?:=zde xs i
theorem zkN {α:Type} (xs:List α) (i:Nat) (h:0 < i):atI xs ((i:Int) - 1)=xs[i - 1]?:=by
 rw [show ((i:Int) - 1)=((i - 1:Nat):Int) by omega];exact zde xs _
end M
namespace M
open PySem L2 V2
end M
namespace M
open PySem L2 V2
def Ch (l s:Int):Int→Int→Option Int→List E→Prop
 | lo,hp,_,[]=>lo=s∧hp=s
 | lo,hp,pr,e :: r=>(∀ p,pr=some p→p ≤ e.1)∧(pr=some e.1∨e.2.2 ≤ lo + l + 1)∧lo < e.2.1∧hp < e.2.2∧e.2.1 ≤ e.2.2∧e.2.2 - e.2.1 ≤ l∧Ch l s e.2.1 e.2.2 (some e.1) r
def zvA (es:List E):Prop:=∀ e r,es=e :: r→e.2.1=1∧e.2.2=1
structure GF (s l d:Int) (es:List E):Prop where
 s0:0 ≤ s
 l0:0 ≤ l
 d0:0 ≤ d
 fst:zvA es
 ch:Ch l s 0 0 none es
theorem Ch.bound {l s:Int}:∀ {es:List E} {lo hp:Int} {pr:Option Int},Ch l s lo hp pr es→lo ≤ s∧hp ≤ s
 | [],_,_,_,h=>⟨Int.le_of_eq h.1,Int.le_of_eq h.2⟩
 | e :: r,_,_,_,h=>by
  obtain ⟨_,_,h3,h4,_,_,h7⟩:=h
  have:=Ch.bound h7
  omega
end M
namespace M
open PySem L2 V2
def zhI (l:Int) (k y:E):Bool:=decide (y.1=k.1) || decide (y.2.2 ≤ k.2.1 + l + 1)
theorem zoP (l:Int) (k y:E):zhI l k y=true↔(y.1=k.1∨y.2.2 ≤ k.2.1 + l + 1):=by simp [zhI]
end M
namespace V2
open PySem L2
@[simp] theorem zo1 (neg:Bool) (i j:Bool) (Ω:Sto):gEqB neg (.bl i) (.bl j) Ω=some (.ok (.bl (if neg then !(i == j) else i == j)),Ω):=by
 simp [gEqB,res,pur,eqA]
@[simp] theorem zwQ (i j:Bool) (Ω:Sto):gEq (.bl i) (.bl j) Ω=some (.ok (.bl (i == j)),Ω):=zo1 false i j Ω
@[simp] theorem zwR (i j:Bool) (Ω:Sto):gNe (.bl i) (.bl j) Ω=some (.ok (.bl (!(i == j))),Ω):=zo1 true i j Ω
theorem zsD (es:List E):eqA 8 (.lst (encL es)) (.lst [])=es.isEmpty:=by
 cases es <;> rfl
theorem zrc (neg:Bool) (es:List E) (Ω:Sto):gEqB neg (.lst (encL es)) (.lst []) Ω=some (.ok (.bl (if neg then !es.isEmpty else es.isEmpty)),Ω):=by
 have h1:pur 8 (.lst (encL es))=true:=by rw [ztt];exact zq6 6 es
 have h2:pur 8 (.lst [])=true:=rfl
 unfold gEqB
 rw [zfN h1,zfN h2]
 simp [h1,h2,zsD]
@[simp] theorem zwE (es:List E) (Ω:Sto):gEq (.lst (encL es)) (.lst []) Ω=some (.ok (.bl es.isEmpty),Ω):=zrc false es Ω
@[simp] theorem zmN (a b c d:Int) (Ω:Sto):gNe (.tup [.int a, .int b]) (.tup [.int c, .int d]) Ω=some (.ok (.bl (!(a == c && b == d))),Ω):=by
 have h1:∀ a b:Int,pur 8 (.tup [.int a, .int b])=true:=fun a b=>rfl
 unfold gNe gEqB
 rw [zfN (h1 a b),zfN (h1 c d)]
 simp [h1,eqA,zkf]
end V2
namespace M
open PySem L2 V2
theorem zuO (l:Int) (k y:E) (Ω:Sto):zcf [encE k,encE y, .int l] Ω=some (.ok (.bl (zhI l k y)),Ω):=by
 by_cases h:y.1=k.1
 ·simp [zcf,zfa,encE,h,zhI]
 ·simp [zcf,zfa,encE,h,zhI]
theorem zih (e:E) (p:Int) (Ω:Sto):zcz [encE e, .int p] Ω=some (.ok (.bl (decide (e.2.1=p∧e.2.2=p))),Ω):=by
 by_cases h:e.2.1=p
 ·by_cases h2:e.2.2=p <;> simp [zcz,zgv,encE,h,h2]
 ·simp [zcz,zgv,encE,h]
theorem zqC (e:E) (l:Int) (Ω:Sto):zcV [encE e, .int l] Ω=some (.ok (.bl (decide (e.2.1 ≤ e.2.2∧e.2.2 - e.2.1 ≤ l))),Ω):=by
 by_cases h:e.2.1 ≤ e.2.2
 ·simp [zcV,zfI,encE,h]
 ·simp [zcV,zfI,encE,h]
theorem znB (e f:E) (l:Int) (Ω:Sto):zbB [encE e,encE f, .int l] Ω=some (.ok (.bl (decide (e.1 ≤ f.1∧e.2.1 < f.2.1∧e.2.2 < f.2.2) && zhI l e f)),Ω):=by
 have q:=fun Ω=>zuO l e f Ω
 simp only [encE] at q
 by_cases h1:e.1 ≤ f.1
 ·have n1:¬ f.1 < e.1:=by omega
  by_cases h2:e.2.1 < f.2.1
  ·have n2:¬ f.2.1 ≤ e.2.1:=by omega
   by_cases h3:e.2.2 < f.2.2
   ·have n3:¬ f.2.2 ≤ e.2.2:=by omega
    simp [zbB,zdb,encE,h1,h2,h3,n1,n2,n3,q]
   ·have n3:f.2.2 ≤ e.2.2:=by omega
    simp [zbB,zdb,encE,h1,h2,h3,n1,n2,n3]
  ·have n2:f.2.1 ≤ e.2.1:=by omega
   simp [zbB,zdb,encE,h1,h2,n1,n2]
 ·have n1:f.1 < e.1:=by omega
  simp [zbB,zdb,encE,h1,n1]
theorem zs9 {s l d:Int} {es:List E} (h:GF s l d es):(s=0↔es=[]):=by
 cases es with
 | nil=>exact ⟨fun _=>rfl,fun _=>h.ch.1.symm⟩
 | cons e r =>
  obtain ⟨_,_,a3,_,_,_,a7⟩:=h.ch
  have:=a7.bound
  exact ⟨fun z=>by omega,fun z=>by cases z⟩
theorem zun {s l d:Int} {es:List E} (h:GF s l d es) (Ω:Sto):za5 [encP s l d es] Ω=some (.ok (.bl true),Ω):=by
 have n1:¬ s < 0:=by have:=h.s0;omega
 have n2:¬ l < 0:=by have:=h.l0;omega
 have n3:¬ d < 0:=by have:=h.d0;omega
 have e:=zs9 h
 by_cases hs:s=0
 ·have he:=e.mp hs
  subst he
  simp [za5,zcB,encP,n2,n3,hs]
 ·have he:¬ es=[]:=fun z=>hs (e.mpr z)
  have b1:(s == 0)=false:=by simpa using hs
  have b2:((es.length:Int) == 0)=false:=by simpa using he
  simp [za5,zcB,encP,n1,n2,n3,b1,b2]
theorem zpI {l s:Int}:∀ (es:List E) (lo hp:Int) (pr:Option Int) (i:Nat) (e:E),Ch l s lo hp pr es→es[i]? = some e→e.2.1 ≤ e.2.2∧e.2.2 - e.2.1 ≤ l∧(i + 1=es.length→e.2.1=s∧e.2.2=s)∧∀ f,es[i + 1]? = some f→e.1 ≤ f.1∧e.2.1 < f.2.1∧e.2.2 < f.2.2∧zhI l e f=true
 | [],_,_,_,_,_,_,h=>by simp at h
 | x :: r,lo,hp,pr,0,e,h,he=>by
  obtain ⟨a1,a2,a3,a4,a5,a6,a7⟩:=h
  simp at he;subst he
  refine ⟨a5,a6,fun hl=>?_,fun f hf=>?_⟩
  ·have:r=[]:=List.eq_nil_of_length_eq_zero (by simp only [List.length_cons] at hl;omega)
   subst this;exact a7
  ·cases r with
   | nil=>simp at hf
   | cons y r =>
    simp at hf;subst hf
    obtain ⟨b1,b2,b3,b4,_⟩:=a7
    refine ⟨b1 _ rfl,b3,b4,?_⟩
    rw [zoP]
    rcases b2 with z | z
    ·left;exact (Option.some.inj z).symm
    ·right;exact z
 | x :: r,lo,hp,pr,i + 1,e,h,he=>by
  obtain ⟨a1,a2,a3,a4,a5,a6,a7⟩:=h
  simp at he
  obtain ⟨c1,c2,c3,c4⟩:=zpI r _ _ _ i e a7 he
  exact ⟨c1,c2,fun hl=>c3 (by simp only [List.length_cons] at hl;omega),fun f hf=>c4 f (by simpa using hf)⟩
theorem zsE {s l d:Int} {es:List E} (h:GF s l d es) (i:Nat) (hi:i < es.length) (Ω:Sto):zaX [encP s l d es, .int i] Ω=some (.ok (.bl true),Ω):=by
 have e1:atI (encL es) (i:Int)=some (encE es[i]):=by rw [zrm,zep,List.getElem?_eq_getElem hi];rfl
 obtain ⟨c1,c2,c3,_⟩:=zpI es 0 0 none i es[i] h.ch (List.getElem?_eq_getElem hi)
 have qa:=fun Ω=>zqC es[i] l Ω
 rw [decide_eq_true ⟨c1,c2⟩] at qa
 have q1:=fun Ω=>zih es[i] 1 Ω
 have qs:=fun Ω=>zih es[i] s Ω
 have hlast:((i:Int) == (es.length:Int) - 1)=true→es[i].2.1=s∧es[i].2.2=s:=fun z=>c3 (by simp at z;omega)
 by_cases h0:i=0
 ·subst h0
  have hf:es[0].2.1=1∧es[0].2.2=1:=by
   cases es with
   | nil=>simp at hi
   | cons x r=>exact h.fst x r rfl
  rw [decide_eq_true hf] at q1
  cases hl:((0:Nat):Int) == (es.length:Int) - 1 with
  | true =>
   rw [decide_eq_true (hlast hl)] at qs
   simp only [Int.ofNat_zero,Int.natCast_zero] at *
   simp [zaX,zbz,encP,e1,q1,qs,qa,-beq_iff_eq,-beq_eq_false_iff_ne,hl]
  | false =>
   simp only [Int.ofNat_zero,Int.natCast_zero] at *
   simp [zaX,zbz,encP,e1,q1,qa,-beq_iff_eq,-beq_eq_false_iff_ne,hl]
 ·have hi1:i - 1 < es.length:=by omega
  have e2:atI (encL es) ((i:Int) - 1)=some (encE es[i - 1]):=by rw [zkN _ _ (by omega),zep,List.getElem?_eq_getElem hi1];rfl
  obtain ⟨_,_,_,d4⟩:=zpI es 0 0 none (i - 1) es[i - 1] h.ch (List.getElem?_eq_getElem hi1)
  obtain ⟨f1,f2,f3,f4⟩:=d4 es[i] (by rw [show i - 1 + 1=i by omega];exact List.getElem?_eq_getElem hi)
  have qb:=fun Ω=>znB es[i - 1] es[i] l Ω
  rw [decide_eq_true ⟨f1,f2,f3⟩,f4] at qb
  have hz0:((i:Int) == 0)=false:=by simp;exact h0
  cases hl:(i:Int) == (es.length:Int) - 1 with
  | true =>
   rw [decide_eq_true (hlast hl)] at qs
   simp [zaX,zbz,encP,e1,e2,qs,qa,qb,-beq_iff_eq,-beq_eq_false_iff_ne,hl,hz0]
  | false=>simp [zaX,zbz,encP,e1,e2,qa,qb,-beq_iff_eq,-beq_eq_false_iff_ne,hl,hz0]
end M
namespace M
open PySem L2 V2
def okE (s l:Int) (n i:Nat) (p e:E):Prop:=(i=0→e.2.1=1∧e.2.2=1)∧(i + 1=n→e.2.1=s∧e.2.2=s)∧(e.2.1 ≤ e.2.2∧e.2.2 - e.2.1 ≤ l)∧(i ≠ 0→(p.1 ≤ e.1∧p.2.1 < e.2.1∧p.2.2 < e.2.2)∧zhI l p e=true)
instance (s l:Int) (n i:Nat) (p e:E):Decidable (okE s l n i p e):=by unfold okE;infer_instance
theorem zh0 (s l d:Int) (es:List E) (i:Nat) (hi:i < es.length) (Ω:Sto):zaX [encP s l d es, .int i] Ω=some (.ok (.bl (decide (okE s l es.length i (es[i - 1]'(by omega)) es[i]))),Ω):=by
 have hat:atI (encL es) (i:Int)=some (encE es[i]):=by rw [zde,zep,List.getElem?_eq_getElem hi];rfl
 have s1:=fun Ω=>zih es[i] 1 Ω
 have s2:=fun Ω=>zih es[i] s Ω
 have a1:=fun Ω=>zqC es[i] l Ω
 have b1:=fun Ω=>znB (es[i - 1]'(by omega)) es[i] l Ω
 have hlen:(encL es).length=es.length:=by simp [encL]
 have hprev:i ≠ 0→atI (encL es) ((i:Int) - 1)=some (encE (es[i - 1]'(by omega))):=fun h=>by rw [zkN _ _ (by omega),zep,List.getElem?_eq_getElem (by omega)];rfl
 generalize hp:es[i - 1]'(by omega)=p at b1 hprev
 generalize he:es[i]=e at hat s1 s2 a1 b1
 have hlast:((i:Int) == (es.length:Int) - 1)=decide (i + 1=es.length):=by
  by_cases h:i + 1=es.length
  ·rw [decide_eq_true h,beq_iff_eq];omega
  ·rw [decide_eq_false h,beq_eq_false_iff_ne];omega
 have hz:((i:Int) == 0)=decide (i=0):=by
  by_cases h:i=0
  ·rw [decide_eq_true h,beq_iff_eq];omega
  ·rw [decide_eq_false h,beq_eq_false_iff_ne];omega
 have res:decide (okE s l es.length i p e)=((!decide (i=0) || decide (e.2.1=1∧e.2.2=1)) && (!decide (i + 1=es.length) || decide (e.2.1=s∧e.2.2=s)) && decide (e.2.1 ≤ e.2.2∧e.2.2 - e.2.1 ≤ l) && (decide (i=0) || (decide (p.1 ≤ e.1∧p.2.1 < e.2.1∧p.2.2 < e.2.2) && zhI l p e))):=by
  unfold okE
  by_cases h0:i=0 <;> by_cases hl:i + 1=es.length <;> simp [h0,hl,Bool.and_assoc]
 rw [res]
 generalize decide (e.2.1=1∧e.2.2=1)=B1 at s1
 generalize decide (e.2.1=s∧e.2.2=s)=B2 at s2
 generalize decide (e.2.1 ≤ e.2.2∧e.2.2 - e.2.1 ≤ l)=B3 at a1
 generalize (decide (p.1 ≤ e.1∧p.2.1 < e.2.1∧p.2.2 < e.2.2) && zhI l p e)=B4 at b1
 by_cases h0:i=0
 ·rw [decide_eq_true h0] at hz ⊢
  by_cases hl:i + 1=es.length
  ·rw [decide_eq_true hl] at hlast ⊢
   cases B1 <;> cases B2 <;> cases B3 <;> simp [zaX,zbz,encP,zaq,hat,s1,s2,a1,hlen,-beq_iff_eq,-beq_eq_false_iff_ne,hlast,hz]
  ·rw [decide_eq_false hl] at hlast ⊢
   cases B1 <;> cases B3 <;> simp [zaX,zbz,encP,zaq,hat,s1,s2,a1,hlen,-beq_iff_eq,-beq_eq_false_iff_ne,hlast,hz]
 ·have hpr:=hprev h0
  rw [decide_eq_false h0] at hz ⊢
  by_cases hl:i + 1=es.length
  ·rw [decide_eq_true hl] at hlast ⊢
   cases B2 <;> cases B3 <;> cases B4 <;> simp [zaX,zbz,encP,zaq,hat,s1,s2,a1,b1,hpr,hlen,-beq_iff_eq,-beq_eq_false_iff_ne,hlast,hz]
  ·rw [decide_eq_false hl] at hlast ⊢
   cases B3 <;> cases B4 <;> simp [zaX,zbz,encP,zaq,hat,s1,s2,a1,b1,hpr,hlen,-beq_iff_eq,-beq_eq_false_iff_ne,hlast,hz]
end M
namespace M
open PySem L2 V2
theorem zwL (s l:Int) (n i:Nat) (pn pa pb en ea eb:Int):decide (okE s l n i (pn,pa,pb) (en,ea,eb))=((!decide (i=0) || (ea == 1 && eb == 1)) && (!decide (i + 1=n) || (ea == s && eb == s)) && (decide (ea ≤ eb) && decide (eb - ea ≤ l)) && (decide (i=0) || ((decide (pn ≤ en) && decide (pa < ea) && decide (pb < eb)) && zhI l (pn,pa,pb) (en,ea,eb)))):=by
 have e0:∀ a b c d':Int,(a == c && b == d')=decide (a=c∧b=d'):=fun a b c d'=>by by_cases h1:a=c <;> by_cases h2:b=d' <;> simp [h1,h2]
 rw [e0,e0]
 unfold okE
 by_cases h0:i=0 <;> by_cases hl:i + 1=n <;> simp [h0,hl,Bool.and_assoc]
end M
namespace M
open PySem L2 V2
end M
namespace V2
open PySem L2
theorem zqP {α:Type} (l:List α) (x:α):atI (l ++ [x]) (-1)=some x:=by
 unfold atI ixN
 rw [if_neg (by decide),if_pos (by simp;omega)]
 simp
 have:((-1:Int) + ((l.length:Int) + 1)).toNat=l.length:=by omega
 rw [this]
 simp
end V2
namespace M
open PySem L2 V2
end M
namespace V2
open PySem L2
theorem ziu {ok:Sto→Prop} {g:A→MS} {c:Ev→Mo Bool} {e:Ev→Mo A} (F:A→Option A) (P:Ev→Prop) (Ω0:Sto) (hok:∀ ys,ok (Ω0 ++ [.lst ys])):∀ (xs:List A) (ρ:Ev) (acc:List A),P ρ→acc.length + xs.length ≤ 1000000 →
  (∀ x ∈ xs,∀ ρ,P ρ→∀ ys,∃ ρ1,P ρ1∧g x ρ (Ω0 ++ [.lst ys])=some (.nx,ρ1,Ω0 ++ [.lst ys])∧((∃ y,F x=some y∧c ρ1 (Ω0 ++ [.lst ys])=some (.ok true,Ω0 ++ [.lst ys])∧e ρ1 (Ω0 ++ [.lst ys])=some (.ok y,Ω0 ++ [.lst ys]))∨(F x=none∧c ρ1 (Ω0 ++ [.lst ys])=some (.ok false,Ω0 ++ [.lst ys])))) →
  ∃ ρ',fLC ok g c e Ω0.length xs ρ (Ω0 ++ [.lst acc])=some (ρ',Ω0 ++ [.lst (acc ++ xs.filterMap F)])
 | [],ρ,acc,_,_,_=>⟨ρ,by simp [fLC,hok]⟩
 | x :: xs,ρ,acc,hP,hl,turn=>by
  simp only [List.length_cons] at hl
  obtain ⟨ρ1,hP1,e1,q⟩:=turn x (List.mem_cons_self ..) ρ hP acc
  have hz:acc.length < sizeLine:=by rw [sizeLine_eq];omega
  rcases q with ⟨y,f1,e2,e3⟩ | ⟨f1,e2⟩
  ·obtain ⟨ρ',ih⟩:=ziu F P Ω0 hok xs ρ1 (acc ++ [y]) hP1 (by simp;omega) fun x hx=>turn x (List.mem_cons_of_mem _ hx)
   exact ⟨ρ',by simp [fLC,hok,e1,e2,e3,hz,ih,f1]⟩
  ·obtain ⟨ρ',ih⟩:=ziu F P Ω0 hok xs ρ1 acc hP1 (by omega) fun x hx=>turn x (List.mem_cons_of_mem _ hx)
   exact ⟨ρ',by simp [fLC,hok,e1,e2,ih,f1]⟩
theorem zf9 {n:Nat} {js:List Nat} {fi:Ev→Mo Src} {g:A→MS} {c:Ev→Mo Bool} {e:Ev→Mo A} {ρ:Ev} {Ω Ω0:Sto} {S:Src} (F:A→Option A) (P:Ev→Prop) (hfi:fi ρ Ω=some (.ok S,Ω0)) (hok:∀ ys,S.ok (Ω0 ++ [.lst ys])) (hP:P (lcEv n js ρ)) (hl:S.ds.length ≤ 1000000)
  (turn:∀ x ∈ S.ds,∀ ρ,P ρ→∀ ys,∃ ρ1,P ρ1∧g x ρ (Ω0 ++ [.lst ys])=some (.nx,ρ1,Ω0 ++ [.lst ys])∧((∃ y,F x=some y∧c ρ1 (Ω0 ++ [.lst ys])=some (.ok true,Ω0 ++ [.lst ys])∧e ρ1 (Ω0 ++ [.lst ys])=some (.ok y,Ω0 ++ [.lst ys]))∨(F x=none∧c ρ1 (Ω0 ++ [.lst ys])=some (.ok false,Ω0 ++ [.lst ys]))))
  (hc:ClL Ω0.length (S.ds.filterMap F)):vLC false n js fi g c e ρ Ω=some (.ok (.lst (S.ds.filterMap F)),Ω0):=by
 obtain ⟨ρ',q⟩:=ziu F P Ω0 hok S.ds (lcEv n js ρ) [] hP (by simpa using hl) turn
 simp [vLC,mb,hfi,q,zrW,hc]
theorem zre {a b c:A} {Ω:Sto} (ha:res Ω 6 a=some c) (hb:res Ω 6 b=some c) (hc:pur 8 c=true):gNe a b Ω=some (.ok (.bl false),Ω):=by
 simp [gNe,gEqB,ha,hb,hc,znj 8 c hc]
theorem zqU {a:A} {Ω:Sto} (h:pur 8 a=true):gEq a a Ω=some (.ok (.bl true),Ω):=zrd (zfN h) (zfN h) h
theorem zif {a:A} {Ω:Sto} (h:pur 8 a=true):gNe a a Ω=some (.ok (.bl false),Ω):=zre (zfN h) (zfN h) h
end V2
namespace V2
open PySem L2
theorem rngO {f:Ev→Mo (List A)} {ρ:Ev} {Ω Ω':Sto} {j:Int} (h:f ρ Ω=some (.ok [.int j],Ω')) (hs:zb6 j):zi2 f ρ Ω=some (.ok (zeN 0 j.toNat),Ω'):=by
 unfold zi2
 rw [zuK h]
 show mb (chk (zb6 j)) _ Ω'=_
 rw [zr6 _ hs]
 rfl
theorem forO {fi:Ev→Mo Src} {g:A→MS} {b:MS} {ρ:Ev} {Ω Ω':Sto} {S:Src} (h:fi ρ Ω=some (.ok S,Ω')):sFor fi g b ρ Ω=fFor S.ok g b S.ds ρ Ω':=by
 unfold sFor
 rw [zsC h]
theorem zg5 {n:Nat}:∀ {as:List A},(∀ a ∈ as,Cl n a)→ClL n as
 | [],_=>by simp only [ClL]
 | a :: as,h=>by simp only [ClL];exact ⟨h a (List.mem_cons_self ..),zg5 fun b hb=>h b (List.mem_cons_of_mem _ hb)⟩
end V2
namespace M
open PySem L2 V2
abbrev Rn:=Int × Int
def encT (r:Rn):A := .tup [.int r.1, .int r.2]
def zad (rs:List Rn):List A:=rs.map encT
theorem clT (n:Nat) (r:Rn):Cl n (encT r):=by simp [encT,Cl,ClL]
theorem znk (n:Nat) (rs:List Rn):ClL n (zad rs):=zg5 fun a h=>by
 obtain ⟨r,_,rfl⟩:=List.mem_map.mp h
 exact clT n r
def und (rs:List Rn) (n:Int):Int:=(rs.map fun r=>if r.1 < n then r.2 else 0).sum
def upt (rs:List Rn) (n:Int):Int:=(rs.map fun r=>if r.1 ≤ n then r.2 else 0).sum
def tot (rs:List Rn) (n:Int):Int:=(rs.map fun r=>if r.1=n then r.2 else 0).sum
def whole (rs:List Rn):Int:=(rs.map (·.2)).sum
def zb2 (ks:List Int) (f:Int→Int):List (Key × A):=ks.map fun k=>(.inl k, .int (f k))
theorem zqp (ks:List Int) (f:Int→Int) (n:Int):valA (zb2 ks f) (.inl n)=if n ∈ ks then some (.int (f n)) else none:=by
 induction ks with
 | nil=>rfl
 | cons k ks ih =>
  simp only [valA,zb2,List.map_cons,List.find?_cons] at ih ⊢
  by_cases e:k=n
  ·subst e;simp
  ·have:(Sum.inl k:Key) ≠ Sum.inl n:=fun z=>e (Sum.inl.inj z)
   simp only [this,decide_false]
   rw [ih]
   have e':¬ n=k:=fun z=>e z.symm
   simp [e']
theorem ztJ (ks:List Int) (f:Int→Int) (n:Int):((zb2 ks f).any fun kv=>decide (kv.1=(Sum.inl n:Key)))=decide (n ∈ ks):=by
 induction ks with
 | nil=>rfl
 | cons k ks ih =>
  simp only [zb2,List.map_cons,List.any_cons] at ih ⊢
  rw [ih]
  by_cases e:k=n
  ·subst e;simp
  ·have h1:(Sum.inl k:Key) ≠ Sum.inl n:=fun z=>e (Sum.inl.inj z)
   have e':¬ n=k:=fun z=>e z.symm
   simp [h1,e']
def addK (ks:List Int) (n:Int):List Int:=if n ∈ ks then ks else ks ++ [n]
theorem zs7 (ks:List Int) (f g:Int→Int) (n:Int) (hg:∀ k ∈ ks,k ≠ n→g k=f k):putA (zb2 ks f) (.inl n) (.int (g n))=zb2 (addK ks n) g:=by
 unfold putA addK
 rw [ztJ]
 by_cases h:n ∈ ks
 ·simp only [h,decide_true,if_true]
  simp only [zb2,List.map_map]
  refine List.map_congr_left fun k hk=>?_
  by_cases e:k=n
  ·subst e;simp
  ·have h1:(Sum.inl k:Key) ≠ Sum.inl n:=fun z=>e (Sum.inl.inj z)
   simp [h1,hg k hk e]
 ·simp only [h,decide_false,if_false]
  simp only [zb2,List.map_append,List.map_cons,List.map_nil]
  rw [List.map_congr_left (g:=fun k=>((Sum.inl k:Key),A.int (g k))) fun k hk=>by rw [hg k hk (fun z=>h (z ▸ hk))]]
  simp
def zeA (ks:List Int) (rs:List Rn):List Int:=rs.foldl (fun ks r=>addK ks r.1) ks
theorem zhL {ks:List Int} {n:Int} (h:ks.Nodup):(addK ks n).Nodup:=by
 unfold addK
 split
 ·exact h
 ·rename_i hn
  rw [List.nodup_append]
  refine ⟨h,by simp,fun a ha b hb e=>?_⟩
  simp only [List.mem_singleton] at hb
  exact hn (hb ▸ e ▸ ha)
theorem zey {ks:List Int} {n k:Int}:k ∈ addK ks n↔k ∈ ks∨k=n:=by
 unfold addK
 split
 ·rename_i h;exact ⟨.inl,fun z=>z.elim id fun e=>e ▸ h⟩
 ·simp
theorem zin (ks:List Int) (n:Int):(addK ks n).length ≤ ks.length + 1:=by unfold addK;split <;> simp
theorem ziG:∀ (rs:List Rn) {ks:List Int},ks.Nodup→(zeA ks rs).Nodup
 | [],_,h=>h
 | r :: rs,_,h=>ziG rs (zhL h)
theorem zl0:∀ (rs:List Rn) {ks:List Int} {k:Int},k ∈ zeA ks rs↔k ∈ ks∨∃ r ∈ rs,r.1=k
 | [],ks,k=>by simp [zeA]
 | r :: rs,ks,k=>by
  show k ∈ zeA (addK ks r.1) rs↔_
  rw [zl0 rs,zey]
  simp only [List.mem_cons,exists_eq_or_imp]
  constructor
  ·rintro ((h | h) | h)
   ·exact .inl h
   ·exact .inr (.inl h.symm)
   ·exact .inr (.inr h)
  ·rintro (h | h | h)
   ·exact .inl (.inl h)
   ·exact .inl (.inr h.symm)
   ·exact .inr h
theorem zg8:∀ (rs:List Rn) (ks:List Int),(zeA ks rs).length ≤ ks.length + rs.length
 | [],ks=>by simp [zeA]
 | r :: rs,ks=>by
  have h1:=zg8 rs (addK ks r.1)
  have h2:=zin ks r.1
  show (zeA (addK ks r.1) rs).length ≤ _
  simp only [List.length_cons]
  omega
end M
namespace M
open PySem L2 V2
theorem ziZ (ok:Sto→Prop) (hok:∀ Ω,ok Ω) (L:A) (Ω:Sto):∀ (rs:List Rn) (ks:List Int) (f:Int→Int) (x y:Option A),ks.length + rs.length ≤ 1000→(∀ n,n ∉ ks→f n=0) →
  ∃ x' y',fFor ok (zbl 2 (zak (gN 2) (zak (gN 3) zbo))) zeU (zad rs) [some L,some (.cel Ω.length),x,y] (Ω ++ [.dct (zb2 ks f)])
   = some (.nx,[some L,some (.cel Ω.length),x',y'],Ω ++ [.dct (zb2 (zeA ks rs) fun k=>f k + tot rs k)]):=by
 intro rs
 induction rs with
 | nil =>
  intro ks f x y _ _
  refine ⟨x,y,?_⟩
  have e:(fun k=>f k + tot [] k)=f:=by funext k;simp [tot]
  simp only [zad,List.map_nil,zg2 (hok _),zeA,List.foldl_nil,e]
 | cons r rs ih =>
  intro ks f x y hl hf
  simp only [List.length_cons] at hl
  have hla:=zin ks r.1
  let g:Int→Int:=fun k=>if k=r.1 then f r.1 + r.2 else f k
  obtain ⟨x',y',q⟩:=ih (addK ks r.1) g (some (.int r.1)) (some (.int r.2)) (by omega) (fun n hn=>by
   rw [zey] at hn
   have h1:n ∉ ks:=fun z=>hn (.inl z)
   have h2:¬ n=r.1:=fun z=>hn (.inr z)
   simp only [g,h2,if_false,hf n h1])
  refine ⟨x',y',?_⟩
  have hc:ze8 (Ω ++ [.dct (zb2 ks f)]) (.cel Ω.length)=some (Ω.length,zb2 ks f):=zeg (by simp)
  have hd:isD (Ω ++ [.dct (zb2 ks f)]) (.cel Ω.length):=⟨_,_,hc⟩
  have hv:(valA (zb2 ks f) (.inl r.1)).getD (.int 0) = .int (f r.1):=by
   rw [zqp]
   by_cases h:r.1 ∈ ks
   ·simp [h]
   ·simp [h,hf _ h]
  have hp:putA (zb2 ks f) (.inl r.1) (.int (f r.1 + r.2))=zb2 (addK ks r.1) g:=by
   have:=zs7 ks f g r.1 fun k _ hk=>by simp [g,hk]
   simpa [g] using this
  have hz:(zb2 ks f).length < sizeLine:=by rw [sizeLine_eq];simp [zb2];omega
  have st:zeU [some L,some (.cel Ω.length),some (.int r.1),some (.int r.2)] (Ω ++ [.dct (zb2 ks f)])=some (.nx,[some L,some (.cel Ω.length),some (.int r.1),some (.int r.2)],Ω ++ [.dct (zb2 (addK ks r.1) g)]):=by
   simp [zeU,hd,hc,keyA,hv,hz,hp]
  show fFor ok _ _ (encT r :: zad rs) _ _=_
  rw [zbp (hok _) (ρ0:=[some L,some (.cel Ω.length),some (.int r.1),some (.int r.2)]) (Ω0:=Ω ++ [.dct (zb2 ks f)]) (by simp [encT]) st,q]
  have e:(fun k=>g k + tot rs k)=fun k=>f k + tot (r :: rs) k:=by
   funext k
   simp only [g,tot,List.map_cons,List.sum_cons]
   by_cases h:k=r.1
   ·subst h;simp;omega
   ·have h':¬ r.1=k:=fun z=>h z.symm
    simp [h,h']
  rw [e]
  rfl
def pkd (rs:List Rn):List Rn:=(sortI (zeA [] rs)).map fun k=>(k,tot rs k)
theorem zmG (ks:List Int) (f:Int→Int):intKeys (zb2 ks f)=some ks:=by
 induction ks with
 | nil=>rfl
 | cons k ks ih =>
  simp only [zb2,List.map_cons,intKeys] at ih ⊢
  rw [ih];rfl
theorem zq2 (rs:List Rn) (hl:rs.length ≤ 63) (Ω:Sto):zim [.lst (zad rs)] Ω=some (.ok (.lst (zad (pkd rs))),Ω):=by
 obtain ⟨x',y',q⟩:=ziZ (fun Ω'=>zbj Ω' (.lst (zad rs))=some (zad rs)) (fun _=>rfl) (.lst (zad rs)) Ω rs [] (fun _=>0) none none (by simp;omega) (fun _ _=>rfl)
 simp only [Int.zero_add] at q
 have hkl:=zg8 rs []
 simp only [List.length_nil,Nat.zero_add] at hkl
 generalize hks:zeA [] rs=ks at q hkl
 have hc:∀ Δ,ze8 (Ω ++ .dct (zb2 ks fun k=>tot rs k) :: Δ) (.cel Ω.length)=some (Ω.length,zb2 ks fun k=>tot rs k):=fun Δ=>zeg (by simp)
 have hc0:=hc []
 have sl:=zew ks
 have hk2:ks.length < 64:=by omega
 have hsz:ks.length ≤ sizeLine:=by rw [sizeLine_eq];omega
 have comp:ziJ [some (.lst (zad rs)),some (.cel Ω.length),x',y'] (Ω ++ [.dct (zb2 ks fun k=>tot rs k)])=some (.ok (.lst (zad (pkd rs))),Ω ++ [.dct (zb2 ks fun k=>tot rs k)]):=by
  have eF:((sortI ks).map A.int).filterMap (fun a=>match a with | .int k=>some (encT (k,tot rs k)) | _=>none)=zad (pkd rs):=by
   simp only [List.filterMap_map,zad,pkd,hks,List.map_map]
   rw [← List.filterMap_eq_map]
   rfl
  rw [← eF]
  refine zf9 (S:=srcOf (.lst ((sortI ks).map A.int)) ((sortI ks).map A.int)) _ (fun ρ=>∃ v,ρ=[v,some (.cel Ω.length)]) (by simp [hc0,zmG,hk2,sl]) (fun _=>rfl) ⟨none,rfl⟩ (by simp [sl];omega) ?_ (by
   show ClL _ (List.filterMap _ ((sortI ks).map A.int));rw [eF];exact znk _ _)
  rintro x hx ρ ⟨v,rfl⟩ ys
  obtain ⟨k,hk,rfl⟩:=List.mem_map.mp hx
  have hkm:k ∈ ks:=(sortI_perm ks).mem_iff.mp hk
  have h2:(2:Nat) ≤ sizeLine:=by decide
  have hv:valA (zb2 ks fun k=>tot rs k) (.inl k)=some (.int (tot rs k)):=by rw [zqp,if_pos hkm]
  refine ⟨[some (.int k),some (.cel Ω.length)],⟨_,rfl⟩,by simp, .inl ⟨_,rfl,rfl,?_⟩⟩
  have hc1:=hc [.lst ys]
  simp [hc1,keyA,hv,h2,encT]
 show trim Ω (outR (ziq [some (.lst (zad rs)),none,none,none] Ω))=_
 have e:ziq [some (.lst (zad rs)),none,none,none] Ω=some (.ret (.lst (zad (pkd rs))),[some (.lst (zad rs)),some (.cel Ω.length),x',y'],Ω ++ [.dct (zb2 ks fun k=>tot rs k)]):=by
  unfold ziq
  rw [zas (ρ1:=[some (.lst (zad rs)),some (.cel Ω.length),none,none]) (Ω':=Ω ++ [.dct []]) (by simp)]
  rw [zas (ρ1:=[some (.lst (zad rs)),some (.cel Ω.length),x',y']) (Ω':=Ω ++ [.dct (zb2 ks fun k=>tot rs k)]) (by rw [forO (S:=srcOf (.lst (zad rs)) (zad rs)) (Ω':=Ω ++ [.dct []]) (by simp)];exact q)]
  simp [comp]
 rw [e]
 simp only [outR]
 exact zjU (by simp only [Cl];exact znk _ _)
end M
namespace M
open PySem L2 V2
def sumR (ps:List Rn):Int:=(ps.map (·.2)).sum
theorem zqj (m t:Int):∀ {ks:List Int},ks.Nodup→(ks.map fun k=>if m=k then t else 0).sum=if m ∈ ks then t else 0
 | [],_=>by simp
 | k :: ks,h=>by
  obtain ⟨h1,h2⟩:=List.nodup_cons.mp h
  simp only [List.map_cons,List.sum_cons,zqj m t h2]
  by_cases e:m=k
  ·subst e;simp [h1]
  ·simp [e]
theorem znf (f g:Int→Int):∀ ks:List Int,(ks.map fun k=>f k + g k).sum=(ks.map f).sum + (ks.map g).sum
 | []=>by simp
 | k :: ks=>by simp only [List.map_cons,List.sum_cons,znf f g ks];omega
theorem znW (r:Rn) (rs:List Rn) (k:Int):tot (r :: rs) k=(if r.1=k then r.2 else 0) + tot rs k:=by simp [tot]
theorem znT:∀ ks:List Int,(ks.map fun _=>(0:Int)).sum=0
 | []=>rfl
 | _ :: ks=>by simp only [List.map_cons,List.sum_cons,znT ks];rfl
theorem zmV (P:Int→Prop) [DecidablePred P] {ps:List Int} (hn:ps.Nodup):∀ (rs:List Rn),(∀ r ∈ rs,(r.1 ∈ ps↔P r.1))→(ps.map (tot rs)).sum=(rs.map fun r=>if P r.1 then r.2 else 0).sum
 | [],_=>by
  have:tot []=fun _=>(0:Int):=by funext k;simp [tot]
  rw [this,znT];rfl
 | r :: rs,h=>by
  have e:(ps.map (tot (r :: rs)))=ps.map fun k=>(if r.1=k then r.2 else 0) + tot rs k:=List.map_congr_left fun k _=>znW r rs k
  rw [e,znf,zqj _ _ hn,zmV P hn rs fun q hq=>h q (List.mem_cons_of_mem _ hq)]
  have:=h r (List.mem_cons_self ..)
  simp only [List.map_cons,List.sum_cons]
  by_cases hm:r.1 ∈ ps
  ·rw [if_pos hm,if_pos (this.mp hm)]
  ·rw [if_neg hm,if_neg fun z=>hm (this.mpr z)]
theorem zm5 (rs:List Rn):(sortI (zeA [] rs)).Pairwise (· < ·):=by
 have h1:=zjZ (zeA [] rs)
 have h2:(sortI (zeA [] rs)).Nodup:=(sortI_perm _).nodup_iff.mpr (ziG rs List.nodup_nil)
 exact (List.Pairwise.and h1 h2).imp fun ⟨a,b⟩=>by omega
theorem mem_keys (rs:List Rn) (k:Int):k ∈ sortI (zeA [] rs)↔∃ r ∈ rs,r.1=k:=by
 rw [(sortI_perm _).mem_iff,zl0];simp
theorem zp7 (rs:List Rn) (ks:List Int):sumR (ks.map fun k=>(k,tot rs k))=(ks.map (tot rs)).sum:=by
 simp [sumR,List.map_map];rfl
theorem znh (rs:List Rn):sumR (pkd rs)=whole rs:=by
 unfold pkd
 rw [zp7,zmV (fun _=>True) ((zm5 rs).imp fun z=>Int.ne_of_lt z) rs fun r hr=>⟨fun _=>trivial,fun _=>(mem_keys rs _).mpr ⟨r,hr,rfl⟩⟩]
 simp [whole]
theorem zsg (rs:List Rn) (n':Int):upt rs n'=und rs n' + tot rs n':=by
 induction rs with
 | nil=>rfl
 | cons r rs ih =>
  simp only [upt,und,tot,List.map_cons,List.sum_cons] at ih ⊢
  rw [ih]
  by_cases a:r.1 < n'
  ·have b:r.1 ≤ n':=by omega
   have c:¬ r.1=n':=by omega
   simp only [a,b,c,if_true,if_false];omega
  ·by_cases c:r.1=n'
   ·have b:r.1 ≤ n':=by omega
    simp only [a,b,c,if_true,if_false];simp;omega
   ·have b:¬ r.1 ≤ n':=by omega
    simp only [a,b,c,if_false];omega
end M
namespace M
open PySem L2 V2
end M
namespace M
open PySem L2 V2
def bad:List Rn→Int→Nat→Option Nat
 | [],_,_=>none
 | r :: rs,acc,k=>if r.2 < 1∨1000000000 < acc + r.2 then some k else bad rs (acc + r.2) (k + 1)
theorem zg0 (n:Nat) (h:n ≤ 1000):((n:Int)).natAbs.log2 < 1920:=by
 show n.log2 < 1920
 by_cases h0:n=0
 ·subst h0;decide
 ·rw [Nat.log2_lt h0]
  exact Nat.lt_of_le_of_lt h (Nat.lt_of_lt_of_le (show 1000 < 2 ^ 10 by decide) (Nat.pow_le_pow_right (by decide) (by decide)))
def badA (rs:List Rn):A:=match bad rs 0 0 with | some j => .int j | none => .non
theorem ztN (ok:Sto→Prop) (hok:∀ Ω,ok Ω) (L:A) (Ω:Sto):∀ (rs:List Rn) (acc:Int) (k:Nat) (x y z:Option A),k + rs.length ≤ 1000→∃ ρ x' y' z',fFor ok (zbl 2 (zak (gN 2) (zak (gN 3) zbo))) zbg (zaA k (zad rs)) [some L,some (.int acc),x,y,z] Ω
  = match bad rs acc k with | some j=>some (.exc ⟨"NoRow",[("at", .int j)]⟩,ρ,Ω) | none=>some (.nx,[some L,some (.int (acc + whole rs)),x',y',z'],Ω):=by
 intro rs
 induction rs with
 | nil=>intro acc k x y z _;exact ⟨[],x,y,z,by simp [bad,whole,zad,zaA,fFor,hok]⟩
 | cons r rs ih =>
  intro acc k x y z hk
  simp only [List.length_cons] at hk
  have hl:k.log2 < 1920:=zg0 k (by omega)
  by_cases h:r.2 < 1∨1000000000 < acc + r.2
  ·refine ⟨[some L,some (.int (acc + r.2)),some (.int k),some (encT r),some (.int r.2)],x,y,z,?_⟩
   simp only [bad,h,if_true]
   refine zit (hok Ω) (ρ0:=[some L,some (.int acc),some (.int k),some (encT r),z]) (Ω0:=Ω) (by simp [encT]) ?_
   by_cases h1:r.2 < 1
   ·simp [zbg,encT,h1,hl]
   ·have h2:1000000000 < acc + r.2:=h.resolve_left h1
    simp [zbg,encT,h1,h2,hl]
  ·obtain ⟨ρ,x',y',z',q⟩:=ih (acc + r.2) (k + 1) (some (.int k)) (some (encT r)) (some (.int r.2)) (by omega)
   refine ⟨ρ,x',y',z',?_⟩
   simp only [bad,h,if_false,whole,List.map_cons,List.sum_cons]
   have h1:¬ r.2 < 1:=fun z=>h (.inl z)
   have h2:¬ 1000000000 < acc + r.2:=fun z=>h (.inr z)
   rw [← Int.add_assoc]
   simp only [whole] at q
   rw [← q]
   exact zbp (hok Ω) (ρ0:=[some L,some (.int acc),some (.int k),some (encT r),z]) (Ω0:=Ω) (by simp [encT]) (by simp [zbg,encT,h1,h2])
theorem zoz (rs:List Rn) (hl:rs.length ≤ 1000) (Ω:Sto):zgg [.lst (zad rs)] Ω=match bad rs 0 0 with | some j=>some (.exc ⟨"NoRow",[("at", .int j)]⟩,Ω) | none=>some (.ok (.int (whole rs)),Ω):=by
 obtain ⟨ρ,x',y',z',q⟩:=ztN (fun Ω'=>zaG Ω' (.lst (zad rs))=some (zad rs)) (fun _=>rfl) (.lst (zad rs)) Ω rs 0 0 none none none (by omega)
 show trim Ω (outR (zga [some (.lst (zad rs)),none,none,none,none] Ω))=_
 have e0:zga [some (.lst (zad rs)),none,none,none,none] Ω=sSeq (sFor (zgK (vVar 0)) (zbl 2 (zak (gN 2) (zak (gN 3) zbo))) zbg) (sRet (vVar 1)) [some (.lst (zad rs)),some (.int 0),none,none,none] Ω:=by
  unfold zga
  rw [zas (ρ1:=[some (.lst (zad rs)),some (.int 0),none,none,none]) (Ω':=Ω) (by simp)]
 rw [e0]
 have e1:sFor (zgK (vVar 0)) (zbl 2 (zak (gN 2) (zak (gN 3) zbo))) zbg [some (.lst (zad rs)),some (.int 0),none,none,none] Ω=fFor (enumSrc (.lst (zad rs)) (zad rs)).ok (zbl 2 (zak (gN 2) (zak (gN 3) zbo))) zbg (zaA 0 (zad rs)) [some (.lst (zad rs)),some (.int 0),none,none,none] Ω:=by
  rw [forO (S:=enumSrc (.lst (zad rs)) (zad rs)) (Ω':=Ω) (by simp)];rfl
 rw [show (enumSrc (.lst (zad rs)) (zad rs)).ok=fun Ω'=>zaG Ω' (.lst (zad rs))=some (zad rs) from rfl,q] at e1
 cases hb:bad rs 0 0 with
 | some j =>
  rw [hb] at e1
  have:sSeq (sFor (zgK (vVar 0)) (zbl 2 (zak (gN 2) (zak (gN 3) zbo))) zbg) (sRet (vVar 1)) [some (.lst (zad rs)),some (.int 0),none,none,none] Ω=some (.exc ⟨"NoRow",[("at", .int j)]⟩,ρ,Ω):=by
   unfold sSeq;rw [e1]
  rw [this]
  simp [trim,Cl]
 | none=>rw [hb] at e1;rw [zas e1];simp
end M
namespace M
open PySem L2 V2
def oks (s l:Int) (es:List E) (i:Nat):Bool:=if h:i < es.length then decide (okE s l es.length i (es[i - 1]'(by omega)) es[i]) else true
def fbF (f:Nat→Bool):Nat→Nat→Option Nat
 | 0,_=>none
 | m + 1,i=>if f i then fbF f m (i + 1) else some i
def zjv (s l d:Int) (es:List E):Bool:=!(decide (s < 0) || decide (l < 0) || decide (d < 0)) && (decide (s=0) == es.isEmpty)
def fbP (s l d:Int) (es:List E):Option Nat:=if zjv s l d es then fbF (oks s l es) es.length 0 else some 0
def intsFrom (i m:Nat):List A:=(List.range' i m).map fun (j:Nat)=>A.int (j:Int)
theorem znz (n:Nat):((List.range n).map fun (i:Nat)=>A.int (0 + (i:Int)))=intsFrom 0 n:=by
 unfold intsFrom;rw [List.range_eq_range'];simp
theorem ztr (s l d:Int) (es:List E) (hn:es.length ≤ 1000) (Ω:Sto):∀ (m i:Nat) (x:Option A),i + m=es.length→∃ ρ ρ',fFor (fun _=>True) (gN 1) zbc (intsFrom i m) [some (encP s l d es),x] Ω
  = match fbF (oks s l es) m i with | some j=>some (.exc ⟨"NoPouch",[("at", .int j)]⟩,ρ,Ω) | none=>some (.nx,ρ',Ω):=by
 intro m
 induction m with
 | zero=>intro i x _;exact ⟨[],_,by simp [intsFrom,fbF,zg2];rfl⟩
 | succ m ih =>
  intro i x h
  have hi:i < es.length:=by omega
  have g:=zh0 s l d es i hi Ω
  have ho:oks s l es i=decide (okE s l es.length i (es[i - 1]'(by omega)) es[i]):=by unfold oks;rw [dif_pos hi]
  rw [← ho] at g
  have hl:i.log2 < 1920:=zg0 i (by omega)
  have e:intsFrom i (m + 1) = .int (i:Int) :: intsFrom (i + 1) m:=by simp [intsFrom,List.range'_succ]
  rw [e]
  cases hk:oks s l es i with
  | true =>
   rw [hk] at g
   obtain ⟨ρ,ρ',q⟩:=ih (i + 1) (some (.int i)) (by omega)
   refine ⟨ρ,ρ',?_⟩
   simp only [fbF,hk,if_true]
   rw [← q]
   exact zbp (ok:=fun _=>True) trivial (ρ0:=[some (encP s l d es),some (.int i)]) (Ω0:=Ω) (by simp) (by simp [zbc,zaq,g])
  | false =>
   rw [hk] at g
   refine ⟨[some (encP s l d es),some (.int i)],[],?_⟩
   simp only [fbF,hk]
   exact zit (ok:=fun _=>True) trivial (ρ0:=[some (encP s l d es),some (.int i)]) (Ω0:=Ω) (by simp) (by simp [zbc,zaq,g,hl])
end M
namespace M
open PySem L2 V2
theorem zgz (s l d:Int) (es:List E) (Ω:Sto):za5 [encP s l d es] Ω=some (.ok (.bl (zjv s l d es)),Ω):=by
 have hlen:((es.length:Int) == 0)=es.isEmpty:=by
  cases es with
  | nil=>rfl
  | cons x r=>rw [beq_eq_false_iff_ne.mpr (by simp;omega)];rfl
 have hs:(s == 0)=decide (s=0):=by by_cases h:s=0 <;> simp [h]
 unfold zjv
 by_cases h1:s < 0
 ·simp [za5,zcB,encP,h1]
 by_cases h2:l < 0
 ·simp [za5,zcB,encP,h1,h2]
 by_cases h3:d < 0
 ·simp [za5,zcB,encP,h1,h2,h3]
 ·simp [za5,zcB,encP,h1,h2,h3,-beq_iff_eq,-beq_eq_false_iff_ne,hlen,hs]
def fbA (s l d:Int) (es:List E):A:=match fbP s l d es with | some j => .int j | none => .non
end M
namespace M
open PySem L2 V2
theorem zho {f g:MS} {ρ ρ1:Ev} {Ω Ω':Sto} {x:Exc} (h:f ρ Ω=some (.exc x,ρ1,Ω')):sSeq f g ρ Ω=some (.exc x,ρ1,Ω'):=by unfold sSeq;rw [h]
theorem zgc {x:Exc} {Ω:Sto}:trim Ω (some (.exc x,Ω))=some (.exc x,Ω):=by simp only [trim];split <;> rfl
theorem log0 (j:Int) (h:j=0):j.natAbs.log2 < 1920:=by
 have:=zg0 j.natAbs (by omega)
 rwa [Int.natAbs_natCast] at this
theorem zqE (s l d:Int) (es:List E) (j:Int) (hj:j.natAbs.log2 < 1920) (hh:zjv s l d es=false) (Ω:Sto):sIf (zh3 (zaB (vCl (zaq 1 za5) (zac (vVar 0) a0)))) (zgA "NoPouch" "at" (zac (cI j) a0)) sNx [some (encP s l d es),none] Ω=some (.exc ⟨"NoPouch",[("at", .int j)]⟩,[some (encP s l d es),none],Ω):=by
 have g:=zgz s l d es Ω
 rw [hh] at g
 simp [zaq,g,hj]
theorem zod (s l d:Int) (es:List E) (f:MS) (hh:zjv s l d es=true) (Ω:Sto):sIf (zh3 (zaB (vCl (zaq 1 za5) (zac (vVar 0) a0)))) f sNx [some (encP s l d es),none] Ω=some (.nx,[some (encP s l d es),none],Ω):=by
 have g:=zgz s l d es Ω
 rw [hh] at g
 simp [zaq,g]
theorem zt5 (s l d:Int) (es:List E) (hn:es.length ≤ 1000) (Ω:Sto):zb9 [encP s l d es] Ω=match fbP s l d es with | some j=>some (.exc ⟨"NoPouch",[("at", .int j)]⟩,Ω) | none=>some (.ok (.bl true),Ω):=by
 show trim Ω (outR (zei [some (encP s l d es),none] Ω))=_
 have hlen:(encL es).length=es.length:=by simp [encL]
 unfold fbP zei
 cases hh:zjv s l d es with
 | false =>
  have e:=zqE s l d es 0 (log0 0 rfl) hh Ω
  rw [zho e]
  exact zgc
 | true =>
  rw [zas (zod s l d es _ hh Ω)]
  obtain ⟨ρ,ρ',q⟩:=ztr s l d es hn Ω es.length 0 none (by omega)
  have e1:sFor (zi2 (zac (vCl gLen (zac (vOp gIx (vVar 0) (cI 3)) a0)) a0)) (gN 1) zbc [some (encP s l d es),none] Ω=fFor (fun _=>True) (gN 1) zbc (intsFrom 0 es.length) [some (encP s l d es),none] Ω:=by
   rw [forO (S:=zeN 0 es.length) (Ω':=Ω) (rngO (j:=(es.length:Int)) (by simp [encP,hlen]) (by unfold zb6;omega))]
   rw [← znz]
   rfl
  rw [q] at e1
  simp only [if_true]
  cases hf:fbF (oks s l es) es.length 0 with
  | some j=>rw [hf] at e1;rw [zho e1];exact zgc
  | none=>rw [hf] at e1;rw [zas e1];simp
theorem znw (f:Nat→Bool):∀ m i,(∀ j,i ≤ j→j < i + m→f j=true)→fbF f m i=none
 | 0,_,_=>rfl
 | m + 1,i,h=>by
  unfold fbF
  rw [h i (by omega) (by omega)]
  exact znw f m (i + 1) fun j a b=>h j (by omega) (by omega)
theorem zuN {s l d:Int} {es:List E} (h:GF s l d es):fbP s l d es=none:=by
 have h1:=zun h []
 rw [zgz] at h1
 have hb:zjv s l d es=true:=by simpa using h1
 unfold fbP
 rw [if_pos hb]
 refine znw _ _ _ fun j _ hj=>?_
 have hj':j < es.length:=by omega
 have e:=zsE h j hj' []
 rw [zh0 s l d es j hj'] at e
 unfold oks
 rw [dif_pos hj']
 simpa using e
end M
namespace M
open PySem L2 V2
theorem sl3 (n a b:Int) (Ω:Sto):gSl false (.tup [.int n, .int a, .int b]) (some 1) none Ω=some (.ok (.tup [.int a, .int b]),Ω):=by
 have h1:HT.sIx 3 0 (some 1)=1:=by decide
 have h2:HT.sIx 3 3 none=3:=rfl
 simp [h1,cutA,h2]
structure Po where
 s:Int
 l:Int
 d:Int
 es:List E
def encQ (p:Po):A:=encP p.s p.l p.d p.es
structure Ok (keep:Int) (m:Nat) (p:Po):Prop where
 gf:GF p.s p.l p.d p.es
 kp:keep * p.l ≤ p.d * p.s
 dm:p.d ≤ m
end M
namespace M
open PySem L2 V2
end M
namespace M
open PySem L2 V2
theorem zhk (r:Rn) (rs:List Rn) (x:Int):und (r :: rs) x=(if r.1 < x then r.2 else 0) + und rs x∧upt (r :: rs) x=(if r.1 ≤ x then r.2 else 0) + upt rs x:=⟨rfl,rfl⟩
def Tn (R:List Rn):Prop:=∀ r ∈ R,0 ≤ r.2
theorem Tn.tail {r:Rn} {R:List Rn} (h:Tn (r :: R)):Tn R:=fun q hq=>h q (List.mem_cons_of_mem _ hq)
theorem Tn.head {r:Rn} {R:List Rn} (h:Tn (r :: R)):0 ≤ r.2:=h r (List.mem_cons_self ..)
theorem zpo:∀ {R:List Rn},Tn R→∀ x,0 ≤ und R x
 | [],_,_=>by simp [und]
 | r :: R,h,x=>by
  rw [(zhk r R x).1]
  have:=zpo h.tail x
  have:=h.head
  split <;> omega
theorem zmD:∀ {R:List Rn},Tn R→∀ (x:Int),und R x ≤ upt R x
 | [],_,_=>by simp [upt,und]
 | r :: R,h,x=>by
  rw [(zhk r R x).2,(zhk r R x).1]
  have:=zmD h.tail x
  have:=h.head
  split <;> split <;> omega
theorem zi3:∀ {R:List Rn},Tn R→∀ (x:Int),upt R x ≤ whole R
 | [],_,_=>by simp [upt,whole]
 | r :: R,h,x=>by
  rw [(zhk r R x).2]
  have e:whole (r :: R)=r.2 + whole R:=by simp [whole]
  have:=zi3 h.tail x
  have:=h.head
  rw [e]
  split <;> omega
def Pl (R:List Rn):Int→List E→Prop
 | _,[]=>True
 | z,e :: r=>∃ p,z < p∧und R e.1 < p∧p ≤ upt R e.1∧e.2.1 ≤ p∧p ≤ e.2.2∧Pl R p r
theorem Pl.low {R:List Rn} {z z':Int}:∀ {es:List E},Pl R z es→z' ≤ z→Pl R z' es
 | [],_,_=>trivial
 | _ :: _,⟨p,h,q⟩,l=>⟨p,by omega,q⟩
theorem Pl.sub {R:List Rn}:∀ {es fs:List E} {z:Int},es.Sublist fs→Pl R z fs→Pl R z es
 | _,_,_, .slnil,_=>trivial
 | _,_,_, .cons a s,⟨p,h,q⟩=>Pl.sub s (q.2.2.2.2.low (by omega))
 | _,_,_, .cons_cons a s,⟨p,h,q1,q2,q3,q4,q5⟩=>⟨p,h,q1,q2,q3,q4,Pl.sub s q5⟩
structure Gd (R:List Rn) (p:Po):Prop where
 tn:Tn R
 gf:GF p.s p.l p.d p.es
 sz:p.s=whole R
 pl:Pl R 0 p.es
end M
namespace M
open PySem L2 V2
def plD:Int→List Rn→List (Key × A)
 | _,[]=>[]
 | acc,r :: rs=>(.inl r.1, .tup [.int (acc + 1), .int (acc + r.2)]) :: plD (acc + r.2) rs
theorem zqL (a b:List Rn):sumR (a ++ b)=sumR a + sumR b:=by simp [sumR]
theorem zj9:∀ (as bs:List Rn) (acc:Int),plD acc (as ++ bs)=plD acc as ++ plD (acc + sumR as) bs
 | [],bs,acc=>by simp [plD,sumR]
 | a :: as,bs,acc=>by
  have e:sumR (a :: as)=a.2 + sumR as:=by simp [sumR]
  simp only [List.cons_append,plD]
  rw [zj9 as bs,e,Int.add_assoc]
theorem zf7:∀ (as:List Rn) (acc:Int),(plD acc as).map (·.1)=as.map fun r=>(Sum.inl r.1:Key)
 | [],_=>rfl
 | a :: as,acc=>by simp only [plD,List.map_cons];rw [zf7 as]
theorem zt6 (as:List Rn) (acc:Int):(plD acc as).length=as.length:=by
 have:=congrArg List.length (zf7 as acc)
 simpa using this
theorem zsO {kvs:List (Key × A)} {k:Key} {a:A} (h:k ∉ kvs.map (·.1)):putA kvs k a=kvs ++ [(k,a)]:=by
 unfold putA
 rw [if_neg]
 intro hc
 rw [List.any_eq_true] at hc
 obtain ⟨x,hx,e⟩:=hc
 exact h (List.mem_map.mpr ⟨x,hx,by simpa using e⟩)
theorem ziE (ok:Sto→Prop) (hok:∀ Ω,ok Ω) (L:A) (Ω:Sto):∀ (rest pre:List Rn) (x y:Option A),((pre ++ rest).map (·.1)).Pairwise (· < ·)→pre.length + rest.length ≤ 1000 →
  ∃ x' y',fFor ok (zbl 2 (zak (gN 3) (zak (gN 4) zbo))) zeB (zad rest) [some L,some (.cel Ω.length),some (.int (sumR pre)),x,y] (Ω ++ [.dct (plD 0 pre)])
   = some (.nx,[some L,some (.cel Ω.length),some (.int (sumR (pre ++ rest))),x',y'],Ω ++ [.dct (plD 0 (pre ++ rest))])
 | [],pre,x,y,_,_=>⟨x,y,by simp [zad,fFor,hok]⟩
 | r :: rest,pre,x,y,hp,hl=>by
  have e0:pre ++ r :: rest=(pre ++ [r]) ++ rest:=by simp
  have hnew:(Sum.inl r.1:Key) ∉ (plD 0 pre).map (·.1):=by
   rw [zf7]
   intro hc
   obtain ⟨q,hq,e⟩:=List.mem_map.mp hc
   rw [List.map_append,List.pairwise_append] at hp
   have:=hp.2.2 q.1 (List.mem_map_of_mem hq) r.1 (by simp)
   have e':q.1=r.1:=by injection e
   omega
  have hput:putA (plD 0 pre) (.inl r.1) (.tup [.int (sumR pre + 1), .int (sumR pre + r.2)])=plD 0 (pre ++ [r]):=by
   rw [zsO hnew,zj9];simp [plD]
  obtain ⟨x',y',q⟩:=ziE ok hok L Ω rest (pre ++ [r]) (some (.int r.1)) (some (.int r.2)) (by rw [← e0];exact hp) (by simp at hl ⊢;omega)
  refine ⟨x',y',?_⟩
  rw [e0,← q]
  have hc:ze8 (Ω ++ [.dct (plD 0 pre)]) (.cel Ω.length)=some (Ω.length,plD 0 pre):=zeg (by simp)
  have hz:(plD 0 pre).length < sizeLine:=by rw [zt6,sizeLine_eq];simp only [List.length_cons] at hl;omega
  have h2:(2:Nat) ≤ sizeLine:=by decide
  have es:sumR (pre ++ [r])=sumR pre + r.2:=by rw [zqL];simp [sumR]
  have e:zad (r :: rest)=encT r :: zad rest:=rfl
  rw [e,es]
  exact zbp (hok _) (ρ0:=[some L,some (.cel Ω.length),some (.int (sumR pre)),some (.int r.1),some (.int r.2)]) (Ω0:=Ω ++ [.dct (plD 0 pre)]) (by simp [encT]) (by simp [zeB,hc,keyA,hz,hput,h2])
theorem znt (rs:List Rn):((pkd rs).map (·.1)).Pairwise (· < ·):=by
 have e:(pkd rs).map (·.1)=sortI (zeA [] rs):=by unfold pkd;rw [List.map_map];exact List.map_id _
 rw [e];exact zm5 rs
theorem zt3 (rs:List Rn):(pkd rs).length ≤ rs.length:=by
 have hkl:=zg8 rs []
 unfold pkd
 rw [List.length_map,zew]
 simpa using hkl
theorem zm6 (rs:List Rn) (hl:rs.length ≤ 63) (Ω:Sto):ze7 [.lst (zad rs)] Ω=some (.ok (.cel Ω.length),Ω ++ [.dct (plD 0 (pkd rs))]):=by
 have hp:=fun Ω=>zq2 rs hl Ω
 have hkl:=zt3 rs
 obtain ⟨x',y',q⟩:=ziE (fun Ω'=>zbj Ω' (.lst (zad (pkd rs)))=some (zad (pkd rs))) (fun _=>rfl) (.lst (zad rs)) Ω (pkd rs) [] none none (by simpa using znt rs) (by simp;omega)
 simp only [List.nil_append] at q
 have s0:sumR []=0:=rfl
 rw [s0] at q
 have p0:plD 0 []=[]:=rfl
 rw [p0] at q
 show trim Ω (outR (ze9 [some (.lst (zad rs)),none,none,none,none] Ω))=_
 have e:ze9 [some (.lst (zad rs)),none,none,none,none] Ω=some (.ret (.cel Ω.length),[some (.lst (zad rs)),some (.cel Ω.length),some (.int (sumR (pkd rs))),x',y'],Ω ++ [.dct (plD 0 (pkd rs))]):=by
  unfold ze9
  rw [zas (ρ1:=[some (.lst (zad rs)),some (.cel Ω.length),none,none,none]) (Ω':=Ω ++ [.dct []]) (by simp)]
  rw [zas (ρ1:=[some (.lst (zad rs)),some (.cel Ω.length),some (.int 0),none,none]) (Ω':=Ω ++ [.dct []]) (by simp)]
  rw [zas (ρ1:=[some (.lst (zad rs)),some (.cel Ω.length),some (.int (sumR (pkd rs))),x',y']) (Ω':=Ω ++ [.dct (plD 0 (pkd rs))]) (by
   rw [forO (S:=srcOf (.lst (zad (pkd rs))) (zad (pkd rs))) (Ω':=Ω ++ [.dct []]) (by simp [zaq,hp])]
   exact q)]
  simp
 rw [e]
 simp [trim,Cl]
theorem zqu {as bs:List (Key × A)} {k:Key} (h:k ∉ as.map (·.1)):valA (as ++ bs) k=valA bs k:=by
 unfold valA
 rw [List.find?_append]
 have:as.find? (fun kv=>decide (kv.1=k))=none:=by
  rw [List.find?_eq_none]
  intro x hx e
  exact h (List.mem_map.mpr ⟨x,hx,by simpa using e⟩)
 rw [this];rfl
theorem zr5 {R:List Rn} (n:Int) (h:n ∈ R.map (·.1)):valA (plD 0 (pkd R)) (.inl n)=some (.tup [.int (und R n + 1), .int (upt R n)]):=by
 have hm:n ∈ sortI (zeA [] R):=by
  rw [mem_keys];obtain ⟨r,hr,e⟩:=List.mem_map.mp h;exact ⟨r,hr,e⟩
 obtain ⟨ps,qs,eks⟩:=List.append_of_mem hm
 have hk:=zm5 R
 rw [eks] at hk
 have hmem:∀ k,k ∈ ps ++ n :: qs↔∃ r ∈ R,r.1=k:=fun k=>by rw [← eks];exact mem_keys R k
 obtain ⟨p1,p2,p3⟩:=List.pairwise_append.mp hk
 obtain ⟨p4,p5⟩:=List.pairwise_cons.mp p2
 have nd:ps.Nodup:=p1.imp fun z=>Int.ne_of_lt z
 have hu:sumR (ps.map fun k=>(k,tot R k))=und R n:=by
  rw [zp7]
  refine zmV (fun k=>k < n) nd R fun r hr=>⟨fun z=>p3 _ z _ (List.mem_cons_self ..),fun z=>?_⟩
  rcases List.mem_append.mp ((hmem r.1).mpr ⟨r,hr,rfl⟩) with y | y
  ·exact y
  ·rcases List.mem_cons.mp y with y | y
   ·omega
   ·have:=p4 _ y;omega
 have ht:=zsg R n
 have e:pkd R=(ps.map fun k=>(k,tot R k)) ++ (n,tot R n) :: (qs.map fun k=>(k,tot R k)):=by
  unfold pkd;rw [eks];simp
 rw [e,zj9,hu,zqu]
 ·simp only [plD,valA,List.find?_cons,decide_true,Option.map_some,Int.zero_add]
  rw [ht]
 ·rw [zf7]
  intro hc
  obtain ⟨q,hq,e1⟩:=List.mem_map.mp hc
  obtain ⟨k,hk',e2⟩:=List.mem_map.mp hq
  have e3:q.1=n:=by injection e1
  have:=p3 _ hk' n (List.mem_cons_self ..)
  rw [← e2] at e3
  simp only at e3
  omega
end M
namespace M
open PySem L2 V2
def wrF (R:List Rn):Nat→Int→List E→Option Nat
 | _,_,[]=>none
 | k,z,e :: es=>if min e.2.2 (upt R e.1) < max (z + 1) (max e.2.1 (und R e.1 + 1)) then some k else wrF R (k + 1) (max (z + 1) (max e.2.1 (und R e.1 + 1))) es
theorem zuE {R:List Rn} (n:Int) (h:n ∉ R.map (·.1)):valA (plD 0 (pkd R)) (.inl n)=none:=by
 unfold valA
 have:(plD 0 (pkd R)).find? (fun kv=>decide (kv.1=(Sum.inl n:Key)))=none:=by
  rw [List.find?_eq_none]
  intro x hx e
  have e:x.1=Sum.inl n:=by simpa using e
  have hm:(Sum.inl n:Key) ∈ (plD 0 (pkd R)).map (·.1):=List.mem_map.mpr ⟨x,hx,e⟩
  rw [zf7] at hm
  obtain ⟨q,hq,eq⟩:=List.mem_map.mp hm
  have eq:q.1=n:=by injection eq
  have hk:q.1 ∈ (pkd R).map (·.1):=List.mem_map_of_mem hq
  have ek:(pkd R).map (·.1)=sortI (zeA [] R):=by unfold pkd;rw [List.map_map];exact List.map_id _
  rw [ek,mem_keys] at hk
  obtain ⟨r,hr,er⟩:=hk
  exact h (List.mem_map.mpr ⟨r,hr,by rw [er,eq]⟩)
 rw [this];rfl
theorem zr0 {n:Int}:∀ {R:List Rn},n ∉ R.map (·.1)→tot R n=0
 | [],_=>by simp [tot]
 | r :: R,h=>by
  rw [znW,zr0 fun z=>h (by simp only [List.map_cons];exact List.mem_cons_of_mem _ z)]
  have:¬ r.1=n:=fun z=>h (by rw [← z];simp)
  simp [this]
theorem ziQ (ok:Sto→Prop) (L:A) (R:List Rn) (k:Nat) (Ω:Sto) (hok:ok Ω) (hD:Ω[k]? = some (.dct (plD 0 (pkd R)))):∀ (es:List E) (z:Int) (i:Nat) (x y u:Option A),i + es.length ≤ 1000 →
  ∃ ρ,fFor ok (zbl 2 (zak (gN 3) (zak (gN 4) zbo))) za4 (zaA i (encL es)) [some (.cel k),some L,some (.int z),x,y,u] Ω
   = match wrF R i z es with | some j=>some (.exc ⟨"Wrong",[("at", .int j)]⟩,ρ,Ω) | none=>some (.nx,ρ,Ω)
 | [],z,i,x,y,u,_=>⟨_,by simp [wrF,encL,zaA,fFor,hok];rfl⟩
 | e :: es,z,i,x,y,u,hl=>by
  simp only [List.length_cons] at hl
  have hlg:i.log2 < 1920:=zg0 i (by omega)
  have hc:=zeg hD
  have hu:=zsg R e.1
  by_cases hm:e.1 ∈ R.map (·.1)
  ·have hv:=zr5 e.1 hm
   by_cases c:min e.2.2 (upt R e.1) < max (z + 1) (max e.2.1 (und R e.1 + 1))
   ·refine ⟨[some (.cel k),some L,some (.int (max (z + 1) (max e.2.1 (und R e.1 + 1)))),some (.int i),some (encE e),some (.tup [.int (und R e.1 + 1), .int (upt R e.1)])],?_⟩
    simp only [wrF,if_pos c]
    refine zit hok (ρ0:=[some (.cel k),some L,some (.int z),some (.int i),some (encE e),u]) (Ω0:=Ω) (by simp) ?_
    by_cases c1:e.2.2 < max (z + 1) (max e.2.1 (und R e.1 + 1))
    ·simp [za4,encE,hc,keyA,hv,c1,hlg]
    ·have c2:upt R e.1 < max (z + 1) (max e.2.1 (und R e.1 + 1)):=by omega
     simp [za4,encE,hc,keyA,hv,c1,c2,hlg]
   ·obtain ⟨ρ,q⟩:=ziQ ok L R k Ω hok hD es (max (z + 1) (max e.2.1 (und R e.1 + 1))) (i + 1) (some (.int i)) (some (encE e)) (some (.tup [.int (und R e.1 + 1), .int (upt R e.1)])) (by omega)
    refine ⟨ρ,?_⟩
    have n1:¬ e.2.2 < max (z + 1) (max e.2.1 (und R e.1 + 1)):=by omega
    have n2:¬ upt R e.1 < max (z + 1) (max e.2.1 (und R e.1 + 1)):=by omega
    simp only [wrF,if_neg c]
    rw [← q]
    exact zbp hok (ρ0:=[some (.cel k),some L,some (.int z),some (.int i),some (encE e),u]) (Ω0:=Ω) (by simp) (by simp [za4,encE,hc,keyA,hv,n1,n2])
  ·have hv:=zuE e.1 hm
   have ht:=zr0 hm
   have c:min e.2.2 (upt R e.1) < max (z + 1) (max e.2.1 (und R e.1 + 1)):=by omega
   refine ⟨[some (.cel k),some L,some (.int z),some (.int i),some (encE e),u],?_⟩
   simp only [wrF,if_pos c]
   refine zit hok (ρ0:=[some (.cel k),some L,some (.int z),some (.int i),some (encE e),u]) (Ω0:=Ω) (by simp) ?_
   simp [za4,encE,hc,keyA,hv,hlg]
theorem zjl (R:List Rn) (es:List E) (hl:es.length ≤ 1000) (k:Nat) (Ω:Sto) (hD:Ω[k]? = some (.dct (plD 0 (pkd R)))):zcx [.cel k, .lst (encL es)] Ω
  = match wrF R 0 0 es with | some j=>some (.exc ⟨"Wrong",[("at", .int j)]⟩,Ω) | none=>some (.ok .non,Ω):=by
 obtain ⟨ρ,q⟩:=ziQ (fun Ω'=>zaG Ω' (.lst (encL es))=some (encL es)) (.lst (encL es)) R k Ω rfl hD es 0 0 none none none (by omega)
 show trim Ω (outR (zcw [some (.cel k),some (.lst (encL es)),none,none,none,none] Ω))=_
 have e:zcw [some (.cel k),some (.lst (encL es)),none,none,none,none] Ω=match wrF R 0 0 es with | some j=>some (.exc ⟨"Wrong",[("at", .int j)]⟩,ρ,Ω) | none=>some (.nx,ρ,Ω):=by
  unfold zcw
  rw [zas (ρ1:=[some (.cel k),some (.lst (encL es)),some (.int 0),none,none,none]) (Ω':=Ω) (by simp)]
  rw [forO (S:=enumSrc (.lst (encL es)) (encL es)) (Ω':=Ω) (by simp)]
  exact q
 rw [e]
 cases wrF R 0 0 es with
 | some j=>simp [zgc]
 | none=>simp
theorem zle {Ω Δ:Sto} {x:Exc} (h:ClL Ω.length (x.fs.map (·.2))):trim Ω (some (.exc x,Ω ++ Δ))=some (.exc x,Ω):=by
 simp only [trim]
 rw [if_pos ⟨by simp,h⟩]
inductive Due | row (j:Nat) | pouch (j:Nat) | size | wrong (j:Nat) | good
def dueW (R:List Rn) (p:Po):Due:=match bad R 0 0 with
 | some j => .row j
 | none=>match fbP p.s p.l p.d p.es with
  | some j => .pouch j
  | none=>if p.s=whole R then (match wrF R 0 0 p.es with
   | some j => .wrong j
   | none => .good) else .size
def resW:Due→Rs A
 | .row j => .exc ⟨"NoRow",[("at", .int j)]⟩
 | .pouch j => .exc ⟨"NoPouch",[("at", .int j)]⟩
 | .size => .exc ⟨"NoSize",[]⟩
 | .wrong j => .exc ⟨"Wrong",[("at", .int j)]⟩
 | .good => .ok (.bl true)
theorem zqs (R:List Rn) (p:Po) (hl:R.length ≤ 63) (hz:p.es.length ≤ 1000) (Ω:Sto):zgd [.lst (zad R),encQ p] Ω=some (resW (dueW R p),Ω):=by
 have a1:=fun Ω=>zoz R (by omega) Ω
 have a2:∀ Ω,zb9 [encQ p] Ω=_:=fun Ω=>zt5 p.s p.l p.d p.es hz Ω
 have a3:=fun Ω=>zm6 R hl Ω
 have a4:=zjl R p.es hz Ω.length (Ω ++ [.dct (plD 0 (pkd R))]) (by simp)
 have hsq:∀ Ω,zbj Ω (encQ p)=some [.int p.s, .int p.l, .int p.d, .lst (encL p.es)]:=fun _=>rfl
 have h1s:(1:Nat) ≤ sizeLine:=by decide
 show trim Ω (outR (zhD [some (.lst (zad R)),some (encQ p),none] Ω))=_
 unfold zhD
 cases hb:bad R 0 0 with
 | some j =>
  rw [hb] at a1
  rw [zho (x:=⟨"NoRow",[("at", .int j)]⟩) (ρ1:=[some (.lst (zad R)),some (encQ p),none]) (Ω':=Ω) (by simp [zaq,a1])]
  have ed:dueW R p = .row j:=by unfold dueW;rw [hb]
  rw [ed];simp [resW,zgc]
 | none =>
  rw [hb] at a1
  rw [zas (ρ1:=[some (.lst (zad R)),some (encQ p),some (.int (whole R))]) (Ω':=Ω) (by simp [zaq,a1])]
  cases hf:fbP p.s p.l p.d p.es with
  | some j =>
   rw [hf] at a2
   rw [zho (x:=⟨"NoPouch",[("at", .int j)]⟩) (ρ1:=[some (.lst (zad R)),some (encQ p),some (.int (whole R))]) (Ω':=Ω) (by simp [zaq,a2])]
   have ed:dueW R p = .pouch j:=by unfold dueW;rw [hb];simp only [];rw [hf]
   rw [ed];simp [resW,zgc]
  | none =>
   rw [hf] at a2
   rw [zas (ρ1:=[some (.lst (zad R)),some (encQ p),some (.int (whole R))]) (Ω':=Ω) (by simp [zaq,a2])]
   by_cases hs:p.s=whole R
   ·rw [zas (ρ1:=[some (.lst (zad R)),some (encQ p),some (.int (whole R))]) (Ω':=Ω) (by simp [hsq,hs])]
    cases hw:wrF R 0 0 p.es with
    | some j =>
     rw [hw] at a4
     rw [zho (x:=⟨"Wrong",[("at", .int j)]⟩) (ρ1:=[some (.lst (zad R)),some (encQ p),some (.int (whole R))]) (Ω':=Ω ++ [.dct (plD 0 (pkd R))]) (by simp [zaq,hsq,a3,a4])]
     have ed:dueW R p = .wrong j:=by unfold dueW;rw [hb];simp only [];rw [hf];simp only [];rw [if_pos hs,hw]
     rw [ed]
     simp only [outR,resW]
     exact zle (by simp [ClL,Cl])
    | none =>
     rw [hw] at a4
     rw [zas (ρ1:=[some (.lst (zad R)),some (encQ p),some (.int (whole R))]) (Ω':=Ω ++ [.dct (plD 0 (pkd R))]) (by simp [zaq,hsq,a3,a4])]
     have ed:dueW R p = .good:=by unfold dueW;rw [hb];simp only [];rw [hf];simp only [];rw [if_pos hs,hw]
     rw [ed]
     have e:sRet (cB true) [some (.lst (zad R)),some (encQ p),some (.int (whole R))] (Ω ++ [.dct (plD 0 (pkd R))])=some (.ret (.bl true),[some (.lst (zad R)),some (encQ p),some (.int (whole R))],Ω ++ [.dct (plD 0 (pkd R))]):=by simp
     rw [e]
     simp only [zrg]
     exact zjU (by simp only [Cl])
   ·rw [zho (x:=⟨"NoSize",[]⟩) (ρ1:=[some (.lst (zad R)),some (encQ p),some (.int (whole R))]) (Ω':=Ω) (by simp [hsq,hs,h1s])]
    have ed:dueW R p = .size:=by unfold dueW;rw [hb];simp only [];rw [hf];simp only [];rw [if_neg hs]
    rw [ed];simp [resW,zgc]
end M
namespace M
open PySem L2 V2
theorem zso (ok:Sto→Prop) (hok:∀ Ω,ok Ω) (L:A) (Ω:Sto):∀ (rs:List Rn) (acc:Int) (k:Nat) (x y:Option A),∃ ρ,fFor ok (zbl 2 (zak (gN 2) (zak (gN 3) zbo))) za6 (zaA k (zad rs)) [some L,some (.int acc),x,y] Ω
  = match bad rs acc k with | some j=>some (.ret (.int j),ρ,Ω) | none=>some (.nx,ρ,Ω):=by
 have p9:CPow 10 9:=⟨by decide,by decide,by decide⟩
 intro rs
 induction rs with
 | nil=>intro acc k x y;exact ⟨_,zg2 (hok Ω)⟩
 | cons r rs ih =>
  intro acc k x y
  by_cases h:r.2 < 1∨1000000000 < acc + r.2
  ·refine ⟨[some L,some (.int (acc + r.2)),some (.int k),some (encT r)],?_⟩
   simp only [bad,h,if_true]
   refine zkC (hok Ω) (ρ0:=[some L,some (.int acc),some (.int k),some (encT r)]) (Ω0:=Ω) (by simp [encT]) ?_
   by_cases h1:r.2 < 1
   ·simp [za6,encT,h1,p9]
   ·have h2:1000000000 < acc + r.2:=h.resolve_left h1
    simp [za6,encT,h1,h2,p9]
  ·obtain ⟨ρ,q⟩:=ih (acc + r.2) (k + 1) (some (.int k)) (some (encT r))
   refine ⟨ρ,?_⟩
   simp only [bad,h,if_false]
   rw [← q]
   have h1:¬ r.2 < 1:=fun z=>h (.inl z)
   have h2:¬ 1000000000 < acc + r.2:=fun z=>h (.inr z)
   exact zbp (hok Ω) (ρ0:=[some L,some (.int acc),some (.int k),some (encT r)]) (Ω0:=Ω) (by simp [encT]) (by simp [za6,encT,h1,h2,p9])
theorem zqz (rs:List Rn) (Ω:Sto):zct [.lst (zad rs)] Ω=some (.ok (badA rs),Ω):=by
 obtain ⟨ρ,q⟩:=zso (fun Ω'=>zaG Ω' (.lst (zad rs))=some (zad rs)) (fun _=>rfl) (.lst (zad rs)) Ω rs 0 0 none none
 show trim Ω (outR (zdF [some (.lst (zad rs)),none,none,none] Ω))=_
 have e0:zdF [some (.lst (zad rs)),none,none,none] Ω=sSeq (sFor (zgK (vVar 0)) (zbl 2 (zak (gN 2) (zak (gN 3) zbo))) za6) (sRet cN) [some (.lst (zad rs)),some (.int 0),none,none] Ω:=by
  unfold zdF
  rw [zas (ρ1:=[some (.lst (zad rs)),some (.int 0),none,none]) (Ω':=Ω) (by simp)]
 have e1:sFor (zgK (vVar 0)) (zbl 2 (zak (gN 2) (zak (gN 3) zbo))) za6 [some (.lst (zad rs)),some (.int 0),none,none] Ω=match bad rs 0 0 with | some j=>some (.ret (.int j),ρ,Ω) | none=>some (.nx,ρ,Ω):=by
  rw [forO (S:=enumSrc (.lst (zad rs)) (zad rs)) (Ω':=Ω) (by simp)]
  exact q
 rw [e0]
 unfold badA
 cases hb:bad rs 0 0 with
 | some j=>rw [hb] at e1;rw [zkm e1];simp
 | none=>rw [hb] at e1;rw [zas e1];simp
def alB (s l:Int) (n i:Nat) (ea eb:Int):Bool:=(!decide (i=0) || (ea == 1 && eb == 1)) && (!decide (i + 1=n) || (ea == s && eb == s)) && (decide (ea ≤ eb) && decide (eb - ea ≤ l))
theorem zpU (s l d:Int) (es:List E) (i:Nat) (hi:i < es.length) (Ω:Sto):zcP [encP s l d es, .int i] Ω=some (.ok (.bl (alB s l es.length i es[i].2.1 es[i].2.2)),Ω):=by
 have hat:atI (encL es) (i:Int)=some (encE es[i]):=by rw [zde,zep,List.getElem?_eq_getElem hi];rfl
 have hlen:(encL es).length=es.length:=by simp [encL]
 have h2:(2:Nat) ≤ sizeLine:=by decide
 generalize he:es[i]=e at hat
 obtain ⟨en,ea,eb⟩:=e
 have hlast:((i:Int) == (es.length:Int) - 1)=decide (i + 1=es.length):=by
  by_cases h:i + 1=es.length
  ·rw [decide_eq_true h,beq_iff_eq];omega
  ·rw [decide_eq_false h,beq_eq_false_iff_ne];omega
 have hz:((i:Int) == 0)=decide (i=0):=by
  by_cases h:i=0
  ·rw [decide_eq_true h,beq_iff_eq];omega
  ·rw [decide_eq_false h,beq_eq_false_iff_ne];omega
 have g1:=fun Ω=>zmN ea eb 1 1 Ω
 have g2:=fun Ω=>zmN ea eb s s Ω
 show zcP [encP s l d es, .int i] Ω=some (.ok (.bl (alB s l es.length i ea eb)),Ω)
 unfold alB
 generalize (ea == 1 && eb == 1)=B1 at g1
 generalize (ea == s && eb == s)=B2 at g2
 simp only [encE] at hat
 generalize decide (i=0)=Z at hz
 generalize decide (i + 1=es.length)=L at hlast
 by_cases c3:ea ≤ eb <;> cases Z <;> cases L <;> cases B1 <;> cases B2 <;> simp [zcP,zhZ,encP,hat,hlen,h2,-zmN,g1,g2,-beq_iff_eq,-beq_eq_false_iff_ne,hlast,hz,c3]
def beB (l:Int) (p e:E):Bool:=(decide (p.1 ≤ e.1) && decide (p.2.1 < e.2.1) && decide (p.2.2 < e.2.2)) && zhI l p e
theorem zor (s l d:Int) (es:List E) (i:Nat) (hi:i < es.length) (h0:i ≠ 0) (Ω:Sto):zaP [encP s l d es, .int i] Ω=some (.ok (.bl (beB l (es[i - 1]'(by omega)) es[i])),Ω):=by
 have hat:atI (encL es) (i:Int)=some (encE es[i]):=by rw [zde,zep,List.getElem?_eq_getElem hi];rfl
 have hpr:atI (encL es) ((i:Int) - 1)=some (encE (es[i - 1]'(by omega))):=by rw [zkN _ _ (by omega),zep,List.getElem?_eq_getElem (by omega)];rfl
 generalize hp:es[i - 1]'(by omega)=p at hpr
 generalize he:es[i]=e at hat
 obtain ⟨en,ea,eb⟩:=e
 obtain ⟨pn,pa,pb⟩:=p
 simp only [encE] at hat hpr
 unfold beB zhI
 by_cases c5:pn ≤ en
 ·have n5:¬ en < pn:=by omega
  by_cases c6:pa < ea
  ·have n6:¬ ea ≤ pa:=by omega
   by_cases c7:pb < eb
   ·have n7:¬ eb ≤ pb:=by omega
    by_cases c8:en=pn
    ·simp [zaP,zbf,encP,hat,hpr,c5,c6,c7,c8,n5,n6,n7]
    ·by_cases c9:eb ≤ pa + l + 1
     ·have n9:eb - pa ≤ l + 1:=by omega
      simp [zaP,zbf,encP,hat,hpr,c5,c6,c7,c8,c9,n5,n6,n7,n9]
     ·have n9:¬ eb - pa ≤ l + 1:=by omega
      simp [zaP,zbf,encP,hat,hpr,c5,c6,c7,c8,c9,n5,n6,n7,n9]
   ·have n7:eb ≤ pb:=by omega
    simp [zaP,zbf,encP,hat,hpr,c5,c6,c7,n5,n6,n7]
  ·have n6:ea ≤ pa:=by omega
   simp [zaP,zbf,encP,hat,hpr,c5,c6,n5,n6]
 ·have n5:en < pn:=by omega
  simp [zaP,zbf,encP,hat,hpr,c5,n5]
theorem zwz (s l:Int) (es:List E) (i:Nat) (hi:i < es.length):oks s l es i=(alB s l es.length i es[i].2.1 es[i].2.2 && (decide (i=0) || beB l (es[i - 1]'(by omega)) es[i])):=by
 unfold oks
 rw [dif_pos hi]
 generalize hp:es[i - 1]'(by omega)=p
 generalize he:es[i]=e
 obtain ⟨en,ea,eb⟩:=e
 obtain ⟨pn,pa,pb⟩:=p
 rw [zwL]
 rfl
theorem zm1 (s l d:Int) (es:List E) (x1 x2 x3 x4:Option A) (Ω:Sto):∀ (m i:Nat) (x:Option A),i + m=es.length→∃ ρ ρ',fFor (fun _=>True) (gN 5) zaK (intsFrom i m) [some (encP s l d es),x1,x2,x3,x4,x] Ω
  = match fbF (oks s l es) m i with | some j=>some (.ret (.int j),ρ,Ω) | none=>some (.nx,ρ',Ω):=by
 intro m
 induction m with
 | zero=>intro i x _;exact ⟨[],_,by simp [intsFrom,fbF,zg2];rfl⟩
 | succ m ih =>
  intro i x h
  have hi:i < es.length:=by omega
  have ga:=zpU s l d es i hi Ω
  have gb:=fun h0=>zor s l d es i hi h0 Ω
  have ho:=zwz s l es i hi
  generalize alB s l es.length i es[i].2.1 es[i].2.2=B1 at ga ho
  generalize beB l (es[i - 1]'(by omega)) es[i]=B2 at gb ho
  have e:intsFrom i (m + 1) = .int (i:Int) :: intsFrom (i + 1) m:=by simp [intsFrom,List.range'_succ]
  rw [e]
  have st:oks s l es i=true→zaK [some (encP s l d es),x1,x2,x3,x4,some (.int i)] Ω=some (.nx,[some (encP s l d es),x1,x2,x3,x4,some (.int i)],Ω):=by
   intro hk
   rw [ho] at hk
   rw [Bool.and_eq_true] at hk
   obtain ⟨k1,k2⟩:=hk
   subst k1
   by_cases h0:i=0
   ·have hp:¬ 0 < i:=by omega
    simp [zaK,zaq,ga,hp]
   ·have k2:B2=true:=by simpa [h0] using k2
    subst k2
    have hp:0 < i:=by omega
    simp [zaK,zaq,ga,gb h0,hp]
  have sf:oks s l es i=false→zaK [some (encP s l d es),x1,x2,x3,x4,some (.int i)] Ω=some (.ret (.int i),[some (encP s l d es),x1,x2,x3,x4,some (.int i)],Ω):=by
   intro hk
   rw [ho] at hk
   cases B1 with
   | false=>simp [zaK,zaq,ga]
   | true =>
    have hk:decide (i=0)=false∧B2=false:=by simpa using hk
    have h0:i ≠ 0:=by simpa using hk.1
    obtain ⟨_,k2⟩:=hk
    subst k2
    have hp:0 < i:=by omega
    simp [zaK,zaq,ga,gb h0,hp]
  cases hk:oks s l es i with
  | true =>
   obtain ⟨ρ,ρ',q⟩:=ih (i + 1) (some (.int i)) (by omega)
   refine ⟨ρ,ρ',?_⟩
   simp only [fbF,hk,if_true]
   rw [← q]
   exact zbp (ok:=fun _=>True) trivial (ρ0:=[some (encP s l d es),x1,x2,x3,x4,some (.int i)]) (Ω0:=Ω) (by simp) (st hk)
  | false =>
   refine ⟨[some (encP s l d es),x1,x2,x3,x4,some (.int i)],[],?_⟩
   simp only [fbF,hk]
   exact zkC (ok:=fun _=>True) trivial (ρ0:=[some (encP s l d es),x1,x2,x3,x4,some (.int i)]) (Ω0:=Ω) (by simp) (sf hk)
theorem zqS (s l d:Int) (es:List E) (hn:es.length ≤ 1000) (Ω:Sto):zbU [encP s l d es] Ω=some (.ok (fbA s l d es),Ω):=by
 show trim Ω (outR (zdC [some (encP s l d es),none,none,none,none,none] Ω))=_
 have hlen:(encL es).length=es.length:=by simp [encL]
 have e0:zdC [some (encP s l d es),none,none,none,none,none] Ω=sSeq (sIf (vOrT (zaB (vOp gLt (vVar 1) (cI 0))) (vOrT (zaB (vOp gLt (vVar 2) (cI 0))) (vOrT (zaB (vOp gLt (vVar 3) (cI 0))) (zaB (vOp gNe (vOp gEq (vVar 4) (vLst false a0)) (vOp gEq (vVar 1) (cI 0)))))))
   (sRet (cI 0))
   sNx)
  (sSeq (sFor (zi2 (zac (vCl gLen (zac (vVar 4) a0)) a0)) (gN 5) zaK)
  (sRet cN)) [some (encP s l d es),some (.int s),some (.int l),some (.int d),some (.lst (encL es)),none] Ω:=by
  unfold zdC
  rw [zas (ρ1:=[some (encP s l d es),some (.int s),some (.int l),some (.int d),some (.lst (encL es)),none]) (Ω':=Ω) (by simp [encP])]
 rw [e0]
 unfold fbA fbP
 have hs:(s == 0)=decide (s=0):=by by_cases h:s=0 <;> simp [h]
 have eh:sIf (vOrT (zaB (vOp gLt (vVar 1) (cI 0))) (vOrT (zaB (vOp gLt (vVar 2) (cI 0))) (vOrT (zaB (vOp gLt (vVar 3) (cI 0))) (zaB (vOp gNe (vOp gEq (vVar 4) (vLst false a0)) (vOp gEq (vVar 1) (cI 0)))))))
   (sRet (cI 0)) sNx [some (encP s l d es),some (.int s),some (.int l),some (.int d),some (.lst (encL es)),none] Ω=if zjv s l d es then some (.nx,[some (encP s l d es),some (.int s),some (.int l),some (.int d),some (.lst (encL es)),none],Ω) else some (.ret (.int 0),[some (encP s l d es),some (.int s),some (.int l),some (.int d),some (.lst (encL es)),none],Ω):=by
  unfold zjv
  by_cases h1:s < 0
  ·simp [h1]
  by_cases h2:l < 0
  ·simp [h1,h2]
  by_cases h3:d < 0
  ·simp [h1,h2,h3]
  ·cases hE:es.isEmpty <;> by_cases h4:s=0 <;> simp [h1,h2,h3,h4,hE]
 cases hh:zjv s l d es with
 | false =>
  rw [hh] at eh
  rw [zkm eh];simp
 | true =>
  rw [hh] at eh
  rw [zas eh]
  obtain ⟨ρ,ρ',q⟩:=zm1 s l d es (some (.int s)) (some (.int l)) (some (.int d)) (some (.lst (encL es))) Ω es.length 0 none (by omega)
  have e1:sFor (zi2 (zac (vCl gLen (zac (vVar 4) a0)) a0)) (gN 5) zaK [some (encP s l d es),some (.int s),some (.int l),some (.int d),some (.lst (encL es)),none] Ω=fFor (fun _=>True) (gN 5) zaK (intsFrom 0 es.length) [some (encP s l d es),some (.int s),some (.int l),some (.int d),some (.lst (encL es)),none] Ω:=by
   rw [forO (S:=zeN 0 es.length) (Ω':=Ω) (rngO (j:=(es.length:Int)) (by simp [hlen]) (by unfold zb6;omega))]
   rw [← znz]
   rfl
  rw [q] at e1
  simp only [if_true]
  cases hf:fbF (oks s l es) es.length 0 with
  | some j=>rw [hf] at e1;rw [zkm e1];simp
  | none=>rw [hf] at e1;rw [zas e1];simp
end M
namespace M
open PySem L2 V2
theorem zra (R:List Rn) (x:Int) (hl:R.length ≤ 1000) (Ω:Sto):zgr [some (.lst (zad R)),some (.int x)] Ω=some (.ok (.lst ((R.filterMap fun r=>if r.1 ≤ x then some r.2 else none).map A.int)),Ω):=by
 have eF:(zad R).filterMap (fun a=>match a with | .tup [.int n, .int t]=>if n ≤ x then some (A.int t) else none | _=>none)=(R.filterMap fun r=>if r.1 ≤ x then some r.2 else none).map A.int:=by
  rw [List.map_filterMap]
  simp only [zad,List.filterMap_map]
  congr 1
  funext r
  simp only [encT,Function.comp]
  split <;> rfl
 rw [← eF]
 refine zf9 (S:=srcOf (.lst (zad R)) (zad R)) _ (fun ρ=>∃ u v,ρ=[u,v,some (.int x)]) (by simp) (fun _=>rfl) ⟨none,none,rfl⟩ (by simp [zad];omega) ?_ (by
  show ClL _ (List.filterMap _ (zad R));rw [eF];exact zg5 fun a h=>by obtain ⟨r,_,rfl⟩:=List.mem_map.mp h;simp only [Cl])
 rintro a ha ρ ⟨u,v,rfl⟩ ys
 obtain ⟨r,_,rfl⟩:=List.mem_map.mp ha
 refine ⟨[some (.int r.1),some (.int r.2),some (.int x)],⟨_,_,rfl⟩,by simp [encT],?_⟩
 by_cases c:r.1 ≤ x
 ·exact .inl ⟨.int r.2,by simp [encT,c],by simp [c],by simp⟩
 ·exact .inr ⟨by simp [encT,c],by simp [c]⟩
theorem zoX (x:Int):∀ R:List Rn,(R.filterMap fun r=>if r.1 ≤ x then some r.2 else none).sum=upt R x
 | []=>rfl
 | r :: R=>by
  rw [(zhk r R x).2,← zoX x R]
  by_cases c:r.1 ≤ x <;> simp [c]
theorem zrF (R:List Rn) (x:Int) (hl:R.length ≤ 1000) (Ω:Sto):ze0 [.lst (zad R), .int x] Ω=some (.ok (.int (upt R x)),Ω):=by
 have q:=zra R x hl Ω
 have i:=zeJ (R.filterMap fun r=>if r.1 ≤ x then some r.2 else none)
 have s:=zoX x R
 show trim Ω (outR (zgN [some (.lst (zad R)),some (.int x)] Ω))=_
 simp [zgN,q,i,s]
theorem zoS (R:List Rn) (x:Int) (hl:R.length ≤ 1000) (Ω:Sto):zfn [some (.lst (zad R)),some (.int x)] Ω=some (.ok (.lst ((R.filterMap fun r=>if r.1 < x then some r.2 else none).map A.int)),Ω):=by
 have eF:(zad R).filterMap (fun a=>match a with | .tup [.int n, .int t]=>if n < x then some (A.int t) else none | _=>none)=(R.filterMap fun r=>if r.1 < x then some r.2 else none).map A.int:=by
  rw [List.map_filterMap]
  simp only [zad,List.filterMap_map]
  congr 1
  funext r
  simp only [encT,Function.comp]
  split <;> rfl
 rw [← eF]
 refine zf9 (S:=srcOf (.lst (zad R)) (zad R)) _ (fun ρ=>∃ u v,ρ=[u,v,some (.int x)]) (by simp) (fun _=>rfl) ⟨none,none,rfl⟩ (by simp [zad];omega) ?_ (by
  show ClL _ (List.filterMap _ (zad R));rw [eF];exact zg5 fun a h=>by obtain ⟨r,_,rfl⟩:=List.mem_map.mp h;simp only [Cl])
 rintro a ha ρ ⟨u,v,rfl⟩ ys
 obtain ⟨r,_,rfl⟩:=List.mem_map.mp ha
 refine ⟨[some (.int r.1),some (.int r.2),some (.int x)],⟨_,_,rfl⟩,by simp [encT],?_⟩
 by_cases c:r.1 < x
 ·exact .inl ⟨.int r.2,by simp [encT,c],by simp [c],by simp⟩
 ·exact .inr ⟨by simp [encT,c],by simp [c]⟩
theorem zoD (x:Int):∀ R:List Rn,(R.filterMap fun r=>if r.1 < x then some r.2 else none).sum=und R x
 | []=>rfl
 | r :: R=>by
  rw [(zhk r R x).1,← zoD x R]
  by_cases c:r.1 < x <;> simp [c]
theorem zpa (R:List Rn) (x:Int) (hl:R.length ≤ 1000) (Ω:Sto):zen [.lst (zad R), .int x] Ω=some (.ok (.int (und R x)),Ω):=by
 have q:=zoS R x hl Ω
 have i:=zeJ (R.filterMap fun r=>if r.1 < x then some r.2 else none)
 have s:=zoD x R
 show trim Ω (outR (zfv [some (.lst (zad R)),some (.int x)] Ω))=_
 simp [zfv,q,i,s]
theorem zjN (ok:Sto→Prop) (R:List Rn) (hl:R.length ≤ 1000) (P:Option A) (Ω:Sto) (hok:ok Ω):∀ (es:List E) (z:Int) (i:Nat) (x y u v w:Option A),
  ∃ ρ,fFor ok (zbl 2 (zak (gN 3) (zak (gN 4) zbo))) zb5 (zaA i (encL es)) [some (.lst (zad R)),P,some (.int z),x,y,u,v,w] Ω
   = match wrF R i z es with | some j=>some (.ret (.int j),ρ,Ω) | none=>some (.nx,ρ,Ω)
 | [],z,i,x,y,u,v,w=>⟨_,by simp [wrF,encL,zaA,fFor,hok];rfl⟩
 | e :: es,z,i,x,y,u,v,w=>by
  have m1:=fun Ω=>zrF R e.1 hl Ω
  have m2:=fun Ω=>zpa R e.1 hl Ω
  by_cases c:min e.2.2 (upt R e.1) < max (z + 1) (max e.2.1 (und R e.1 + 1))
  ·refine ⟨[some (.lst (zad R)),P,some (.int (max (z + 1) (max e.2.1 (und R e.1 + 1)))),some (.int i),some (encE e),some (.int e.1),some (.int e.2.1),some (.int e.2.2)],?_⟩
   simp only [wrF,if_pos c]
   refine zkC hok (ρ0:=[some (.lst (zad R)),P,some (.int z),some (.int i),some (encE e),u,v,w]) (Ω0:=Ω) (by simp) ?_
   simp [zb5,encE,zaq,m1,m2,c]
  ·obtain ⟨ρ,q⟩:=zjN ok R hl P Ω hok es (max (z + 1) (max e.2.1 (und R e.1 + 1))) (i + 1) (some (.int i)) (some (encE e)) (some (.int e.1)) (some (.int e.2.1)) (some (.int e.2.2))
   refine ⟨ρ,?_⟩
   simp only [wrF,if_neg c]
   rw [← q]
   exact zbp hok (ρ0:=[some (.lst (zad R)),P,some (.int z),some (.int i),some (encE e),u,v,w]) (Ω0:=Ω) (by simp) (by simp [zb5,encE,zaq,m1,m2,c])
def wrA (R:List Rn) (es:List E):A:=match wrF R 0 0 es with | some j => .int j | none => .non
theorem zqq (R:List Rn) (hl:R.length ≤ 1000) (p:Po) (Ω:Sto):zdH [.lst (zad R),encQ p] Ω=some (.ok (wrA R p.es),Ω):=by
 have hsq:∀ Ω,zbj Ω (encQ p)=some [.int p.s, .int p.l, .int p.d, .lst (encL p.es)]:=fun _=>rfl
 have a3:∀ (a b c d:A),atI [a,b,c,d] 3=some d:=fun a b c d=>rfl
 obtain ⟨ρ,q⟩:=zjN (fun Ω'=>zaG Ω' (.lst (encL p.es))=some (encL p.es)) R hl (some (encQ p)) Ω rfl p.es 0 0 none none none none none
 show trim Ω (outR (zfz [some (.lst (zad R)),some (encQ p),none,none,none,none,none,none] Ω))=_
 have e1:sFor (zgK (vOp gIx (vVar 1) (cI 3))) (zbl 2 (zak (gN 3) (zak (gN 4) zbo))) zb5 [some (.lst (zad R)),some (encQ p),some (.int 0),none,none,none,none,none] Ω=match wrF R 0 0 p.es with | some j=>some (.ret (.int j),ρ,Ω) | none=>some (.nx,ρ,Ω):=by
  rw [forO (S:=enumSrc (.lst (encL p.es)) (encL p.es)) (Ω':=Ω) (by simp [hsq,a3])]
  exact q
 unfold zfz
 rw [zas (ρ1:=[some (.lst (zad R)),some (encQ p),some (.int 0),none,none,none,none,none]) (Ω':=Ω) (by simp)]
 unfold wrA
 cases hb:wrF R 0 0 p.es with
 | some j=>rw [hb] at e1;rw [zkm e1];simp
 | none=>rw [hb] at e1;rw [zas e1];simp
def zgB:Due→A
 | .row j => .lst [.str "row", .int j]
 | .pouch j => .lst [.str "pouch", .int j]
 | .size => .lst [.str "size", .int 0]
 | .wrong j => .lst [.str "wrong", .int j]
 | .good => .lst [.str "good", .int 0]
theorem zs3 (R:List Rn) (hl:R.length ≤ 1000) (x1:Option A) (Ω:Sto):zfi [some (.lst (zad R)),x1] Ω=some (.ok (.lst (R.map fun r=>A.int r.2)),Ω):=by
 have eF:(zad R).filterMap (fun a=>match a with | .tup [_,x]=>some x | _=>none)=R.map fun r=>A.int r.2:=by
  simp only [zad,List.filterMap_map]
  rw [← List.filterMap_eq_map]
  rfl
 rw [← eF]
 refine zf9 (S:=srcOf (.lst (zad R)) (zad R)) _ (fun ρ=>∃ u v,ρ=[u,v]) (by simp) (fun _=>rfl) ⟨none,none,rfl⟩ (by simp [zad];omega) ?_ (by
  show ClL _ (List.filterMap _ (zad R));rw [eF];exact zg5 fun a h=>by obtain ⟨r,_,rfl⟩:=List.mem_map.mp h;simp only [Cl])
 rintro x hx ρ ⟨u,v,rfl⟩ ys
 obtain ⟨r,_,rfl⟩:=List.mem_map.mp hx
 exact ⟨[some (.int r.1),some (.int r.2)],⟨_,_,rfl⟩,by simp [encT], .inl ⟨_,rfl,rfl,by simp⟩⟩
theorem zt7 (R:List Rn) (p:Po) (hl:R.length ≤ 1000) (hz:p.es.length ≤ 1000) (Ω:Sto):zd2 [.lst (zad R),encQ p] Ω=some (.ok (zgB (dueW R p)),Ω):=by
 have a1:=fun Ω=>zqz R Ω
 have a2:∀ Ω,zbU [encQ p] Ω=_:=fun Ω=>zqS p.s p.l p.d p.es hz Ω
 have a4:=fun Ω=>zqq R hl p Ω
 have q1:=zs3 R hl (some (encQ p)) Ω
 have i1:=zeJ (R.map (·.2))
 rw [List.map_map] at i1
 have i1:intsOf (R.map fun r=>A.int r.2)=some (R.map (·.2)):=i1
 have hw:(R.map (·.2)).sum=whole R:=rfl
 generalize (R.map fun r=>A.int r.2)=ws at q1 i1
 have hsq:∀ Ω,zbj Ω (encQ p)=some [.int p.s, .int p.l, .int p.d, .lst (encL p.es)]:=fun _=>rfl
 have h2:(2:Nat) ≤ sizeLine:=by decide
 show trim Ω (outR (zeY [some (.lst (zad R)),some (encQ p)] Ω))=_
 unfold zeY
 cases hb:bad R 0 0 with
 | some j =>
  have ed:dueW R p = .row j:=by unfold dueW;rw [hb]
  have eb:badA R = .int j:=by unfold badA;rw [hb]
  rw [eb] at a1
  rw [ed];simp [zaq,a1,zgB,h2]
 | none =>
  have eb:badA R = .non:=by unfold badA;rw [hb]
  rw [eb] at a1
  rw [zas (ρ1:=[some (.lst (zad R)),some (encQ p)]) (Ω':=Ω) (by simp [zaq,a1])]
  cases hf:fbP p.s p.l p.d p.es with
  | some j =>
   have ed:dueW R p = .pouch j:=by unfold dueW;rw [hb];simp only [];rw [hf]
   have ef:fbA p.s p.l p.d p.es = .int j:=by unfold fbA;rw [hf]
   rw [ef] at a2
   rw [ed];simp [zaq,a2,zgB,h2]
  | none =>
   have ef:fbA p.s p.l p.d p.es = .non:=by unfold fbA;rw [hf]
   rw [ef] at a2
   rw [zas (ρ1:=[some (.lst (zad R)),some (encQ p)]) (Ω':=Ω) (by simp [zaq,a2])]
   by_cases hs:p.s=whole R
   ·rw [zas (ρ1:=[some (.lst (zad R)),some (encQ p)]) (Ω':=Ω) (by simp [hsq,q1,i1,hw,hs])]
    cases hq:wrF R 0 0 p.es with
    | some j =>
     have ed:dueW R p = .wrong j:=by unfold dueW;rw [hb];simp only [];rw [hf];simp only [];rw [if_pos hs,hq]
     have ew:wrA R p.es = .int j:=by unfold wrA;rw [hq]
     rw [ew] at a4
     rw [ed];simp [zaq,a4,zgB,h2]
    | none =>
     have ed:dueW R p = .good:=by unfold dueW;rw [hb];simp only [];rw [hf];simp only [];rw [if_pos hs,hq]
     have ew:wrA R p.es = .non:=by unfold wrA;rw [hq]
     rw [ew] at a4
     rw [ed];simp [zaq,a4,zgB,h2]
   ·have ed:dueW R p = .size:=by unfold dueW;rw [hb];simp only [];rw [hf];simp only [];rw [if_neg hs]
    rw [ed];simp [hsq,q1,i1,hw,hs,zgB,h2]
end M
namespace M
open PySem L2 V2
abbrev rs32:List Str:=["NoPouch", "NoSize", "NoRow", "Wrong"]
abbrev cs32:List Str:=["RankError", "NoRow", "NoPlace", "NoPouch", "NoSize", "Wrong", "NoTimes", "Unlike", "NoText"]
theorem zsx (p d:Addr) (e:Exc):V2.exP (exA p d e)=some p:=by unfold exA;split <;> rfl
theorem zpX (p d:Addr) (e:Exc) (he:e.cls ∈ rs32) (Ω:Sto):za8 p e [exA p d e] Ω=some (.ok (.bl false),Ω):=by
 have h4:(4:Nat) ≤ sizeLine:=by decide
 have hx:=zsx p d e
 have t2:∀ c ∈ rs32,xtab rs32 cs32 c "RankError" = some true:=by decide
 have t3:∀ c ∈ rs32,xtt rs32 c "ValueError" = some true:=by decide
 have t1:∀ c ∈ rs32,anyN (xtab rs32 cs32 c) ["NoPlace", "NoText", "NoTimes", "Unlike"]=some false:=by decide
 have q1:=t1 _ he
 have q2:=t2 _ he
 have q3:=t3 _ he
 generalize exA p d e=a at hx
 show trim Ω (outR (zeC p e [some a] Ω))=_
 simp [zeC,hx,isA,zka,glOf,q1,q2,q3,h4]
noncomputable abbrev g32:Str→Option HF:=zhb rs32 cs32 "NoRow" zbI (zhb rs32 cs32 "NoPouch" zbF (zhb rs32 cs32 "NoSize" zbL (zhb rs32 cs32 "Wrong" zbG hNil)))
def zus:Due→Option (Exc × Str × Nat)
 | .row j=>some (⟨"NoRow",[("at", .int j)]⟩, "row",j)
 | .pouch j=>some (⟨"NoPouch",[("at", .int j)]⟩, "pouch",j)
 | .size=>some (⟨"NoSize",[]⟩, "size",0)
 | .wrong j=>some (⟨"Wrong",[("at", .int j)]⟩, "wrong",j)
 | .good=>none
theorem zux {D:Due} {e:Exc} {w:Str} {j:Nat} (h:zus D=some (e,w,j)) (r pq hd fd:Option A) (Ω:Sto):∃ fh,g32 e.cls=some fh∧∀ p d,zlT 5 (fh p d e [r,pq,hd,some .non,fd,some (exA p d e)] Ω)=some (.nx,[r,pq,hd,some (.lst [.str w, .int j, .bl false]),fd,none],Ω):=by
 have h3:(3:Nat) ≤ sizeLine:=by decide
 have m:∀ p d e,e.cls ∈ rs32→∀ Ω,za8 p e [exA p d e] Ω=some (.ok (.bl false),Ω):=fun p d e h Ω=>zpX p d e h Ω
 cases D with
 | row j =>
  cases h
  refine ⟨zbI,by show g32 "NoRow" = _;simp only [zhb,show xtab rs32 cs32 "NoRow" "NoRow" = some true by decide],fun p d=>?_⟩
  have q:=fun Ω=>m p d ⟨"NoRow",[("at", .int j)]⟩ (show ("NoRow" : Str) ∈ rs32 by decide) Ω
  have t1:anyN (xtab rs32 cs32 "NoRow") ["NoPouch", "NoSize", "Wrong"]=some false:=by decide
  have t3:xtt rs32 "NoRow" "ValueError" = some true:=by decide
  simp only [exA] at q
  simp [zbI,exA,V2.exP,zaq,q,isA,zka,glOf,t1,t3,h3,zlT]
 | pouch j =>
  cases h
  refine ⟨zbF,by show g32 "NoPouch" = _;simp only [zhb,show xtab rs32 cs32 "NoPouch" "NoRow" = some false by decide,show xtab rs32 cs32 "NoPouch" "NoPouch" = some true by decide],fun p d=>?_⟩
  have q:=fun Ω=>m p d ⟨"NoPouch",[("at", .int j)]⟩ (show ("NoPouch" : Str) ∈ rs32 by decide) Ω
  have t1:anyN (xtab rs32 cs32 "NoPouch") ["NoRow", "NoSize", "Wrong"]=some false:=by decide
  have t3:xtt rs32 "NoPouch" "ValueError" = some true:=by decide
  simp only [exA] at q
  simp [zbF,exA,V2.exP,zaq,q,isA,zka,glOf,t1,t3,h3,zlT]
 | size =>
  cases h
  refine ⟨zbL,by show g32 "NoSize" = _;simp only [zhb,show xtab rs32 cs32 "NoSize" "NoRow" = some false by decide,show xtab rs32 cs32 "NoSize" "NoPouch" = some false by decide,show xtab rs32 cs32 "NoSize" "NoSize" = some true by decide],fun p d=>?_⟩
  have q:=fun Ω=>m p d ⟨"NoSize",[]⟩ (show ("NoSize" : Str) ∈ rs32 by decide) Ω
  have t1:anyN (xtab rs32 cs32 "NoSize") ["NoRow", "NoPouch", "Wrong"]=some false:=by decide
  have t3:xtt rs32 "NoSize" "ValueError" = some true:=by decide
  simp only [exA] at q
  simp [zbL,exA,V2.exP,zaq,q,isA,zka,glOf,t1,t3,h3,zlT]
 | wrong j =>
  cases h
  refine ⟨zbG,by show g32 "Wrong" = _;simp only [zhb,show xtab rs32 cs32 "Wrong" "NoRow" = some false by decide,show xtab rs32 cs32 "Wrong" "NoPouch" = some false by decide,show xtab rs32 cs32 "Wrong" "NoSize" = some false by decide,show xtab rs32 cs32 "Wrong" "Wrong" = some true by decide],fun p d=>?_⟩
  have q:=fun Ω=>m p d ⟨"Wrong",[("at", .int j)]⟩ (show ("Wrong" : Str) ∈ rs32 by decide) Ω
  have t1:anyN (xtab rs32 cs32 "Wrong") ["NoRow", "NoPouch", "NoSize"]=some false:=by decide
  have t3:xtt rs32 "Wrong" "ValueError" = some true:=by decide
  simp only [exA] at q
  simp [zbG,exA,V2.exP,zaq,q,isA,zka,glOf,t1,t3,h3,zlT]
 | good=>cases h
theorem zpS (n:Nat) (R:List Rn):pur (n + 2) (.lst (zad R))=true:=by
 simp only [pur,zad,List.all_map,List.all_eq_true,Function.comp]
 intro r _
 simp [encT,pur]
theorem zoq (n:Nat) (p:Po):pur (n + 3) (encQ p)=true:=by
 simp [encQ,encP,pur,encL,encE]
theorem zlC (R:List Rn) (p:Po) (hl:R.length ≤ 63) (hz:p.es.length ≤ 1000) (Ω:Sto):zbO [.lst (zad R),encQ p] Ω=some (.ok (zgB (dueW R p)),Ω):=by
 have jd:=fun Ω=>zqs R p hl hz Ω
 have h4:(4:Nat) ≤ sizeLine:=by decide
 have h1':(1:Nat) ≤ sizeLine:=by decide
 have h2':(2:Nat) ≤ sizeLine:=by decide
 have h3:(3:Nat) ≤ sizeLine:=by decide
 have hcut:cutA [A.int p.s, .int p.l, .int p.d, .lst (encL p.es)] none (some 3)=[.int p.s, .int p.l, .int p.d]:=by
  simp [cutA];rfl
 have nz3:¬ sizeLine < 3:=by decide
 have x3:HT.sIx 4 0 none=0:=rfl
 have x4:HT.sIx 4 4 (some 3)=3:=by decide
 have z1:(zad R).length ≤ sizeLine:=by rw [sizeLine_eq];simp [zad];omega
 have z2:(encL p.es).length ≤ sizeLine:=by rw [sizeLine_eq];simp [encL];omega
 have g1:=zif (a := .lst (zad R)) (Ω:=Ω) (zpS 6 R)
 have g2:=zif (a:=encQ p) (Ω:=Ω) (zoq 5 p)
 have a3:∀ (a b c d:A),atI [a,b,c,d] 3=some d:=fun a b c d=>rfl
 generalize hd:A.tup [.lst (zad R),encQ p]=hd0
 have first:sAsg (vTup (zac (vCl (zoh false) (zac (vVar 0) a0)) (zac (vOp (gAdd false) (vSl false (vVar 1) sl0 (zfl (cI 3))) (vTup (zac (vCl (zoh false) (zac (vOp gIx (vVar 1) (cI 3)) a0)) a0))) a0))) (gN 2) [some (.lst (zad R)),some (encQ p),none,none,none,none] Ω=some (.nx,[some (.lst (zad R)),some (encQ p),some hd0,none,none,none],Ω):=by
  rw [← hd]
  simp [encQ,encP,hcut,x3,x4,nz3,h1',h2',h3,h4,z1,z2,a3]
 have fin:∀ (r:A),outR (zbP [some (.lst (zad R)),some (encQ p),none,none,none,none] Ω)=some (.ok r,Ω)→zbO [.lst (zad R),encQ p] Ω=some (.ok r,Ω):=by
  intro r h
  have e3:fnF 6 zbP [.lst (zad R),encQ p] Ω=some (.ok r,Ω):=by
   show trim Ω (outR (zbP [some (.lst (zad R)),some (encQ p),none,none,none,none] Ω))=_
   rw [h];simp
  show noX (fnF 6 zbP) [.lst (zad R),encQ p] Ω=_
  simp only [noX,e3]
 refine fin _ ?_
 unfold zbP
 rw [zas first]
 rw [zas (ρ1:=[some (.lst (zad R)),some (encQ p),some hd0,some .non,none,none]) (Ω':=Ω) (by simp)]
 rw [zas (ρ1:=[some (.lst (zad R)),some (encQ p),some hd0,some .non,some .non,none]) (Ω':=Ω) (by simp)]
 cases hw:zus (dueW R p) with
 | none =>
  have hg:dueW R p = .good:=by
   cases hD:dueW R p <;> rw [hD] at hw <;> first | rfl | cases hw
  rw [hg] at jd
  have e0:zbv [some (.lst (zad R)),some (encQ p),some hd0,some .non,some .non,none] Ω=some (.nx,[some (.lst (zad R)),some (encQ p),some hd0,some .non,some (.bl true),none],Ω):=by
   rw [← hd];simp [zbv,zaq,jd,resW]
  rw [zas (ztR e0)]
  rw [hg,← hd]
  simp [g1,g2,h2',isBl,zgB]
 | some q =>
  obtain ⟨e,w,j⟩:=q
  have he:resW (dueW R p) = .exc e:=by
   cases hD:dueW R p <;> rw [hD] at hw <;> cases hw <;> rfl
  have ht:zgB (dueW R p) = .lst [.str w, .int j]:=by
   cases hD:dueW R p <;> rw [hD] at hw <;> cases hw <;> rfl
  rw [he] at jd
  have e0:zbv [some (.lst (zad R)),some (encQ p),some hd0,some .non,some .non,none] Ω=some (.exc e,[some (.lst (zad R)),some (encQ p),some hd0,some .non,some .non,none],Ω):=by
   rw [← hd];simp [zbv,zaq,jd]
  obtain ⟨fh,hf,hh⟩:=zux hw (some (.lst (zad R))) (some (encQ p)) (some hd0) (some .non) Ω
  rw [zas (ztm (g:=g32) e0 hf hh)]
  rw [ht,← hd]
  have hc:cutA [A.str w, .int j, .bl false] none (some 2)=[.str w, .int j]:=by simp [cutA];rfl
  have y3:HT.sIx 3 0 none=0:=rfl
  have y4:HT.sIx 3 3 (some 2)=2:=by decide
  have nz2:¬ sizeLine < 2:=by decide
  simp [g1,g2,hc,y3,y4,nz2,h2',h3]
end M
namespace M
open PySem L2 V2
end M
namespace M
open PySem L2 V2
theorem zrL (rs:List Rn) (n:Nat):(zad rs).take n=zad (rs.take n):=by simp [zad]
theorem zrR (rs:List Rn) (n:Nat):(zad rs).drop n=zad (rs.drop n):=by simp [zad]
theorem zuR (ds:List A) (n:Nat) (h:n ≤ ds.length):cutA ds none (some (n:Int))=ds.take n:=by
 unfold cutA;rw [HT.zgV,HT.zkb,Nat.min_eq_left h];simp
theorem zqY (ds:List A) (n:Nat) (h:n ≤ ds.length):cutA ds (some (n:Int)) none=ds.drop n:=by
 unfold cutA;rw [HT.zgV,HT.zkb,Nat.min_eq_left h]
 rw [List.take_of_length_le (by simp)]
end M
namespace M
open PySem L2 V2
theorem znc (es:List E) (n:Nat):(encL es).take n=encL (es.take n):=by simp [encL]
theorem zrP (es:List E) (n:Nat):(encL es).drop n=encL (es.drop n):=by simp [encL]
theorem ztM (es:List E) (n:Nat) (h:n ≤ es.length):cutA (encL es) none (some (n:Int))=encL (es.take n):=by
 have hl:n ≤ (encL es).length:=by simp [encL];omega
 unfold cutA;rw [HT.zgV,HT.zkb,Nat.min_eq_left hl];simp [znc]
theorem zl7 (es:List E) (n:Nat) (h:n ≤ es.length):cutA (encL es) (some (n:Int)) none=encL (es.drop n):=by
 have hl:n ≤ (encL es).length:=by simp [encL];omega
 unfold cutA;rw [HT.zgV,HT.zkb,Nat.min_eq_left hl]
 rw [List.take_of_length_le (by simp),zrP]
end M
namespace M
open PySem L2 V2
theorem znK (es:List E) (n:Nat) (h:n < es.length):∃ e,atI (encL es) (n:Int)=some (encE e):=⟨es[n],by rw [zde,zep,List.getElem?_eq_getElem h];rfl⟩
theorem znm (es:List E) (h:es ≠ []):∃ e,atI (encL es) (-1)=some (encE e):=by
 obtain ⟨zs,z,rfl⟩ : ∃ zs z,es=zs ++ [z]:=⟨es.dropLast,es.getLast h,(List.dropLast_concat_getLast h).symm⟩
 refine ⟨z,?_⟩
 have e:encL (zs ++ [z])=encL zs ++ [encE z]:=by simp [encL]
 rw [e]
 exact V2.zqP _ _
theorem zrX (es:List E) (n:Nat) (h:n < es.length):∃ e,atI (encL es) ((n:Int) - 1)=some (encE e):=by
 by_cases h0:n=0
 ·subst h0
  exact znm es (by intro z;rw [z] at h;simp at h)
 ·obtain ⟨e,q⟩:=znK es (n - 1) (by omega)
  exact ⟨e,by rw [show (n:Int) - 1=((n - 1:Nat):Int) by omega];exact q⟩
theorem zj4 (R:List Rn) (c:Int) (hc:0 ≤ c) (hl:R.length ≤ 60) (Ω:Sto):∃ R',R'.length ≤ R.length + 1∧zbw [.lst (zad R), .int c] Ω=some (.ok (.lst (zad R')),Ω):=by
 have h1:(1:Nat) ≤ sizeLine:=by decide
 have h2:(2:Nat) ≤ sizeLine:=by decide
 have h3:(3:Nat) ≤ sizeLine:=by decide
 have d3:CDiv c 3:=⟨by decide,by decide⟩
 have d90:CDiv c 90:=⟨by decide,by decide⟩
 have p9:CPow 10 9:=⟨by decide,by decide,by decide⟩
 have hlen:(zad R).length=R.length:=by simp [zad]
 have hpos:(0:Int) < (R.length:Int) + 1:=by omega
 obtain ⟨n,hn⟩:=Int.eq_ofNat_of_zero_le (Int.emod_nonneg (c / 3) (show (R.length:Int) + 1 ≠ 0 by omega))
 have hn1:n ≤ R.length:=by
  have:=Int.emod_lt_of_pos (c / 3) hpos
  rw [hn] at this
  omega
 have ct:cutA (zad R) none (some (n:Int))=zad (R.take n):=by rw [zuR _ _ (by simp [zad];omega),zrL]
 have cf:cutA (zad R) (some (n:Int)) none=zad (R.drop n):=by rw [zqY _ _ (by simp [zad];omega),zrR]
 have z1:(zad (R.take n)).length ≤ 60:=by simp [zad];omega
 have z2:(zad (R.drop n)).length ≤ 60:=by simp [zad];omega
 have eR:∀ q:Rn,zad (R.take n ++ [q] ++ R.drop n)=zad (R.take n) ++ [A.tup [.int q.1, .int q.2]] ++ zad (R.drop n):=fun q=>by simp [zad,encT]
 have lR:∀ q:Rn,(R.take n ++ [q] ++ R.drop n).length ≤ R.length + 1:=fun q=>by simp;omega
 suffices h:∃ q:Rn,zbw [.lst (zad R), .int c] Ω=some (.ok (.lst (zad (R.take n) ++ [A.tup [.int q.1, .int q.2]] ++ zad (R.drop n))),Ω) by
  obtain ⟨q,h⟩:=h
  exact ⟨_,lR q,by rw [eR];exact h⟩
 generalize zad (R.take n)=u1 at ct z1
 generalize zad (R.drop n)=u2 at cf z2
 have z3:¬ sizeLine < u1.length + 1:=by rw [sizeLine_eq];omega
 have z4:¬ sizeLine < u1.length + (1 + u2.length):=by rw [sizeLine_eq];omega
 have z5:¬ sizeLine < u1.length + 1 + u2.length:=by rw [sizeLine_eq];omega
 have hne:¬ (R.length:Int) + 1=0:=by omega
 have start:∀ f:MS,sSeq (sAsg (vOp (gMod) (vOp (gDiv) (vVar 1) (cI 3)) (vOp (gAdd false) (vCl gLen (zac (vVar 0) a0)) (cI 1))) (gN 2)) f [some (.lst (zad R)),some (.int c),none] Ω=f [some (.lst (zad R)),some (.int c),some (.int n)] Ω:=by
  intro f
  rw [zas (ρ1:=[some (.lst (zad R)),some (.int c),some (.int n)]) (Ω':=Ω) (by simp [d3,hlen,hpos,hn])]
 have hm:c % 3=0∨c % 3=1∨c % 3=2:=by omega
 rcases hm with e | e | e
 ·obtain ⟨t,ht⟩ : ∃ t:Int,atI [A.int 0, .int (0 - 1), .int (0 - c)] (c / 90 % 3)=some (.int t):=by
   have hq:c / 90 % 3=0∨c / 90 % 3=1∨c / 90 % 3=2:=by omega
   rcases hq with q | q | q <;> rw [q]
   ·exact ⟨0,rfl⟩
   ·exact ⟨_,rfl⟩
   ·exact ⟨_,rfl⟩
  refine ⟨(c % 7,t),?_⟩
  show trim Ω (outR (za1 [some (.lst (zad R)),some (.int c),none] Ω))=_
  unfold za1
  rw [start]
  simp only [Int.reduceSub,Int.zero_sub] at ht
  simp [e,d90,ct,cf,h1,h2,h3,ht,z3,z4,z5]
 ·refine ⟨(c % 7,1000000000 + c / 90 % 2),?_⟩
  show trim Ω (outR (za1 [some (.lst (zad R)),some (.int c),none] Ω))=_
  unfold za1
  rw [start]
  simp [e,d90,p9,ct,cf,h1,h2,z3,z4,z5]
 ·refine ⟨(c % 7,1),?_⟩
  show trim Ω (outR (za1 [some (.lst (zad R)),some (.int c),none] Ω))=_
  unfold za1
  rw [start]
  simp [e,ct,cf,h1,h2,z3,z4,z5]
theorem zji (p:Po) (n:Nat) (hn:n < p.es.length) (c:Int) (hc:0 ≤ c) (Ω:Sto):∃ e:E,zbE [encQ p, .int n, .int c] Ω=some (.ok (encE e),Ω):=by
 have hsq:∀ Ω,zbj Ω (encQ p)=some [.int p.s, .int p.l, .int p.d, .lst (encL p.es)]:=fun _=>rfl
 have a3:∀ (a b c d:A),atI [a,b,c,d] 3=some d:=fun a b c d=>rfl
 have h2:(2:Nat) ≤ sizeLine:=by decide
 have h3:(3:Nat) ≤ sizeLine:=by decide
 have d9:CDiv c 9:=⟨by decide,by decide⟩
 have d27:CDiv c 27:=⟨by decide,by decide⟩
 obtain ⟨⟨en,ea,eb⟩,q1⟩:=znK p.es n hn
 obtain ⟨⟨pn,pa,pb⟩,q2⟩:=zrX p.es n hn
 simp only [encE] at q1 q2
 obtain ⟨t,ht⟩ : ∃ t:Int,atI [A.int 1, .int (-1)] (c / 27 % 2)=some (.int t):=by
  have hq:c / 27 % 2=0∨c / 27 % 2=1:=by omega
  rcases hq with q | q <;> rw [q]
  ·exact ⟨1,rfl⟩
  ·exact ⟨-1,rfl⟩
 have main:∃ (e:E) (ρ:Ev),zbM [some (encQ p),some (.int n),some (.int c),none,none,none,none,none,none,none,none] Ω=some (.ret (encE e),ρ,Ω):=by
  unfold zbM
  rw [zas (ρ1:=[some (encQ p),some (.int n),some (.int c),some (.int en),some (.int ea),some (.int eb),none,none,none,none,none]) (Ω':=Ω) (by simp [hsq,a3,q1])]
  rw [zas (ρ1:=[some (encQ p),some (.int n),some (.int c),some (.int en),some (.int ea),some (.int eb),some (.int pn),some (.int pa),some (.int pb),none,none]) (Ω':=Ω) (by simp [hsq,a3,q2])]
  rw [zas (ρ1:=[some (encQ p),some (.int n),some (.int c),some (.int en),some (.int ea),some (.int eb),some (.int pn),some (.int pa),some (.int pb),some (.int (1 + c / 9 % 3)),none]) (Ω':=Ω) (by simp [d9])]
  rw [zas (ρ1:=[some (encQ p),some (.int n),some (.int c),some (.int en),some (.int ea),some (.int eb),some (.int pn),some (.int pa),some (.int pb),some (.int (1 + c / 9 % 3)),some (.int (c % 9))]) (Ω':=Ω) (by simp)]
  have hm:c % 9=0∨c % 9=1∨c % 9=2∨c % 9=3∨c % 9=4∨c % 9=5∨c % 9=6∨c % 9=7∨c % 9=8:=by omega
  generalize c % 9=m at hm
  rcases hm with e | e | e | e | e | e | e | e | e
  ·exact ⟨(pn - 1,ea,eb),_,by simp [e,h3,encE];rfl⟩
  ·exact ⟨(en + t,ea,eb),_,by simp [e,h2,h3,encE,d27,ht];rfl⟩
  ·exact ⟨(en,pa,eb),_,by simp [e,h3,encE];rfl⟩
  ·exact ⟨(en,ea,pb),_,by simp [e,h3,encE];rfl⟩
  ·exact ⟨(en,eb + 1,eb),_,by simp [e,h3,encE];rfl⟩
  ·exact ⟨(en,ea + (1 + c / 9 % 3),eb + (1 + c / 9 % 3)),_,by simp [e,h3,encE];rfl⟩
  ·exact ⟨(en,ea - (1 + c / 9 % 3),eb - (1 + c / 9 % 3)),_,by simp [e,h3,encE];rfl⟩
  ·exact ⟨(en,eb,eb),_,by simp [e,h3,encE];rfl⟩
  ·exact ⟨(en,ea,ea),_,by simp [e,h3,encE];rfl⟩
 obtain ⟨e,ρ,q⟩:=main
 refine ⟨e,?_⟩
 show trim Ω (outR (zbM [some (encQ p),some (.int n),some (.int c),none,none,none,none,none,none,none,none] Ω))=_
 rw [q];simp
end M
namespace M
open PySem L2 V2
def leaF (N:Int) (f:Nat→Int):Nat→Int→List Int→List Int
 | _,_,[]=>[]
 | k,lo,p :: ps=>(if p=N then p else max (lo + 1) (p - f k)) :: leaF N f (k + 1) (if p=N then p else max (lo + 1) (p - f k)) ps
def mosF (N:Int) (g:Nat→Int):List Int→List Int
 | []=>[]
 | p :: ps=>(if p=1 then p else min ((mosF N g ps).headD (N + 1) - 1) (p + g ps.length)) :: mosF N g ps
def ent3 (v:Int→Int):List Int→List Int→List Int→List E
 | p :: ps,a :: as,b :: bs=>(v p,a,b) :: ent3 v ps as bs
 | _,_,_=>[]
def slkF:Int→Option E→List E→Int
 | acc,_,[]=>acc
 | acc,none,e :: es=>slkF (max acc (e.2.2 - e.2.1)) (some e) es
 | acc,some q,e :: es=>slkF (if q.1=e.1 then max acc (e.2.2 - e.2.1) else max (max acc (e.2.2 - e.2.1)) (e.2.2 - q.2.1 - 1)) (some e) es
theorem zlR:∀ (es:List E) (acc:Int) (q:Option E),acc ≤ slkF acc q es
 | [],acc,q=>by cases q <;> exact Int.le_refl _
 | e :: es,acc,none=>by
  have:=zlR es (max acc (e.2.2 - e.2.1)) (some e)
  simp only [slkF];omega
 | e :: es,acc,some q=>by
  have:=zlR es (if q.1=e.1 then max acc (e.2.2 - e.2.1) else max (max acc (e.2.2 - e.2.1)) (e.2.2 - q.2.1 - 1)) (some e)
  simp only [slkF]
  split at this <;> split <;> first | omega | contradiction
theorem zoQ (N:Int) (f:Nat→Int):∀ (ps:List Int) (k:Nat) (lo:Int),(leaF N f k lo ps).length=ps.length
 | [],_,_=>rfl
 | p :: ps,k,lo=>by simp only [leaF,List.length_cons,zoQ N f ps]
theorem zp6 (N:Int) (g:Nat→Int):∀ (ps:List Int),(mosF N g ps).length=ps.length
 | []=>rfl
 | p :: ps=>by simp only [mosF,List.length_cons,zp6 N g ps]
def Up (N:Int):Int→List Int→Prop
 | z,[]=>z=N
 | z,p :: ps=>z < p∧Up N p ps
theorem Up.le {N:Int}:∀ {ps:List Int} {z:Int},Up N z ps→z ≤ N
 | [],_,h=>Int.le_of_eq h
 | _ :: _,_,h=>by have:=Up.le h.2;have:=h.1;omega
theorem zks {N:Int} {g:Nat→Int} (hg:∀ k,0 ≤ g k):∀ {ps:List Int} {p:Int},1 ≤ p→Up N p ps→p ≤ (mosF N g (p :: ps)).headD (N + 1)∧(mosF N g (p :: ps)).headD (N + 1) < (mosF N g ps).headD (N + 1)
 | [],p,h1,h=>by
  have e:p=N:=h
  have:=hg 0
  simp only [mosF,List.headD_cons,List.headD_nil,List.length_nil]
  split <;> omega
 | q :: qs,p,h1,h=>by
  have i:=(zks hg (ps:=qs) (p:=q) (by have:=h.1;omega) h.2).1
  have hp:=h.1
  have:=hg (q :: qs).length
  have e:(mosF N g (p :: q :: qs)).headD (N + 1)=if p=1 then p else min ((mosF N g (q :: qs)).headD (N + 1) - 1) (p + g (q :: qs).length):=by
   rw [mosF.eq_def];rfl
  rw [e]
  split <;> omega
theorem zpg {N l:Int} {v:Int→Int} {f g:Nat→Int} {R:List Rn} (hf:∀ k,0 ≤ f k) (hg:∀ k,0 ≤ g k) (hN:1 ≤ N)
  (hv:∀ p,1 ≤ p→p ≤ N→und R (v p) < p∧p ≤ upt R (v p)) (hm:∀ p q,1 ≤ p→p ≤ q→q ≤ N→v p ≤ v q) :
  ∀ (ps:List Int) (k:Nat) (lo hp z acc:Int) (pr:Option E),0 ≤ z→Up N z ps→lo ≤ z→(ps=[]→lo=N∧hp=N)→hp < (mosF N g ps).headD (N + 1)→(∀ q,pr=some q→lo=q.2.1∧hp=q.2.2∧q.1=v z∧1 ≤ z) →
   (pr=none→ps.headD 1=1∧lo=0)→slkF acc pr (ent3 v ps (leaF N f k lo ps) (mosF N g ps)) ≤ l→0 ≤ l →
   Ch l N lo hp (pr.map (·.1)) (ent3 v ps (leaF N f k lo ps) (mosF N g ps))∧Pl R z (ent3 v ps (leaF N f k lo ps) (mosF N g ps))
 | [],k,lo,hp,z,acc,pr,hz,hu,hlo,hend,hhp,hpr,hn,hs,hl=>⟨hend rfl,trivial⟩
 | p :: ps,k,lo,hp,z,acc,pr,hz,hu,hlo,hend,hhp,hpr,hn,hs,hl=>by
  obtain ⟨u1,u2⟩:=hu
  have hp1:1 ≤ p:=by omega
  have hpN:p ≤ N:=u2.le
  obtain ⟨m1,m2⟩:=zks hg hp1 u2
  have hfk:=hf k
  generalize hb:(mosF N g (p :: ps)).headD (N + 1)=b at m1 m2 hhp
  have eb:mosF N g (p :: ps)=b :: mosF N g ps:=by
   rw [← hb,mosF.eq_def];rfl
  have b1:p=1→b=1:=by
   intro e
   rw [← hb,mosF.eq_def]
   simp [e]
  have hlast:ps=[]→p=N:=by
   intro e
   subst e
   exact u2
  have hbN:ps=[]→b=N:=by
   intro e
   have:=hlast e
   subst e
   have m2':b < N + 1:=m2
   omega
  rw [eb] at hs ⊢
  simp only [leaF,ent3] at hs ⊢
  generalize ha:(if p=N then p else max (lo + 1) (p - f k))=a at hs ⊢
  have a1:a ≤ p∧lo < a:=by
   rw [← ha]
   split <;> omega
  have aN:p=N→a=N:=by intro e;rw [← ha,if_pos e,e]
  have hvp:=hv p hp1 hpN
  cases pr with
  | none =>
   obtain ⟨n1,n2⟩:=hn rfl
   have n1:p=1:=n1
   have hb1:=b1 n1
   simp only [slkF] at hs
   have h1:=zlR (ent3 v ps (leaF N f (k + 1) a ps) (mosF N g ps)) (max acc (b - a)) (some (v p,a,b))
   obtain ⟨c1,c2⟩:=zpg hf hg hN hv hm ps (k + 1) a b p (max acc (b - a)) (some (v p,a,b)) (by omega) u2 a1.1 (fun e=>⟨aN (hlast e),hbN e⟩) m2 (fun q hq=>by cases hq;exact ⟨rfl,rfl,rfl,hp1⟩) (fun e=>by cases e) hs hl
   refine ⟨⟨fun q e=>(by cases e),Or.inr (by show b ≤ lo + l + 1;omega),a1.2,hhp,by show a ≤ b;omega,by show b - a ≤ l;omega,c1⟩,p,u1,hvp.1,hvp.2,a1.1,m1,c2⟩
  | some q =>
   obtain ⟨q1,q2,q3,q4⟩:=hpr q rfl
   have hmz:=hm z p q4 (by omega) hpN
   simp only [slkF] at hs
   have h1:=zlR (ent3 v ps (leaF N f (k + 1) a ps) (mosF N g ps)) (if q.1=v p then max acc (b - a) else max (max acc (b - a)) (b - q.2.1 - 1)) (some (v p,a,b))
   have h2:=Int.le_trans h1 hs
   obtain ⟨c1,c2⟩:=zpg hf hg hN hv hm ps (k + 1) a b p (if q.1=v p then max acc (b - a) else max (max acc (b - a)) (b - q.2.1 - 1)) (some (v p,a,b)) (by omega) u2 a1.1 (fun e=>⟨aN (hlast e),hbN e⟩) m2 (fun q hq=>by cases hq;exact ⟨rfl,rfl,rfl,hp1⟩) (fun e=>by cases e) hs hl
   refine ⟨⟨fun y e=>(by cases e;show q.1 ≤ v p;rw [q3];exact hmz),?_,a1.2,hhp,by show a ≤ b;omega,?_,c1⟩,p,u1,hvp.1,hvp.2,a1.1,m1,c2⟩
   ·by_cases e:q.1=v p
    ·exact Or.inl (by simp [e])
    ·rw [if_neg e] at h2
     exact Or.inr (by show b ≤ lo + l + 1;omega)
   ·show b - a ≤ l
    split at h2 <;> omega
theorem zvb {N x d:Int} {v:Int→Int} {f g:Nat→Int} {R:List Rn} (hR:Tn R) (hw:whole R=N) (hf:∀ k,0 ≤ f k) (hg:∀ k,0 ≤ g k) (hN:1 ≤ N) (hx:0 ≤ x) (hd:0 ≤ d)
  (hv:∀ p,1 ≤ p→p ≤ N→und R (v p) < p∧p ≤ upt R (v p)) (hm:∀ p q,1 ≤ p→p ≤ q→q ≤ N→v p ≤ v q) (ps:List Int) (hu:Up N 1 ps) :
  Gd R ⟨N,slkF 0 none (ent3 v (1 :: ps) (leaF N f 0 0 (1 :: ps)) (mosF N g (1 :: ps))) + x,d,ent3 v (1 :: ps) (leaF N f 0 0 (1 :: ps)) (mosF N g (1 :: ps))⟩:=by
 have h0:=zlR (ent3 v (1 :: ps) (leaF N f 0 0 (1 :: ps)) (mosF N g (1 :: ps))) 0 none
 have hh:=zks hg (Int.le_refl 1) hu
 obtain ⟨c1,c2⟩:=zpg (R:=R) hf hg hN hv hm (1 :: ps) 0 0 0 0 0 none (Int.le_refl _) ⟨by omega,hu⟩ (Int.le_refl _) (fun e=>by cases e) (by omega) (fun q e=>by cases e) (fun _=>⟨rfl,rfl⟩)
  (l:=slkF 0 none (ent3 v (1 :: ps) (leaF N f 0 0 (1 :: ps)) (mosF N g (1 :: ps))) + x) (by omega) (by omega)
 refine ⟨hR,⟨by show 0 ≤ N;omega,by show 0 ≤ _ + x;omega,hd,fun e r he=>?_,c1⟩,hw.symm,c2⟩
 have ha:(leaF N f 0 0 (1 :: ps))=1 :: leaF N f 1 1 ps:=by
  have:=hf 0
  have e:(if (1:Int)=N then (1:Int) else max (0 + 1) (1 - f 0))=1:=by split <;> omega
  simp only [leaF,e,Nat.zero_add]
 have hb:mosF N g (1 :: ps)=1 :: mosF N g ps:=by simp [mosF]
 rw [ha,hb] at he
 simp only [ent3,List.cons.injEq] at he
 rw [← he.1]
 exact ⟨rfl,rfl⟩
end M
namespace M
open PySem L2 V2
theorem znq:∀ (rs:List Rn),ziF (zad rs)=some (rs.map fun r=>[r.1,r.2])
 | []=>rfl
 | r :: rs=>by
  have e:zad (r :: rs)=encT r :: zad rs:=rfl
  rw [e]
  simp only [ziF,znq rs,encT]
  rfl
theorem zrt (rs:List Rn) (hl:rs.length ≤ 63) (Ω:Sto):zd1 [.lst (zad rs)] Ω=some (.ok (.lst (zad (pkd rs))),Ω):=by
 obtain ⟨x',y',q⟩:=ziZ (fun Ω'=>zbj Ω' (.lst (zad rs))=some (zad rs)) (fun _=>rfl) (.lst (zad rs)) Ω rs [] (fun _=>0) none none (by simp;omega) (fun _ _=>rfl)
 simp only [Int.zero_add] at q
 have hkl:=zg8 rs []
 simp only [List.length_nil,Nat.zero_add] at hkl
 have lt:=znt rs
 have epk:pkd rs=(sortI (zeA [] rs)).map fun k=>(k,tot rs k):=rfl
 generalize hks:zeA [] rs=ks at q hkl epk
 have hc0:ze8 (Ω ++ [.dct (zb2 ks fun k=>tot rs k)]) (.cel Ω.length)=some (Ω.length,zb2 ks fun k=>tot rs k):=zeg (by simp)
 have eI:(zb2 ks fun k=>tot rs k).map itA=zad (ks.map fun k=>(k,tot rs k)):=by
  simp only [zb2,zad,List.map_map];rfl
 have eS:(zoj ((ks.map fun k=>(k,tot rs k)).map fun r=>[r.1,r.2])).map encI=zad (pkd rs):=by
  rw [← zh2 (us:=(pkd rs).map fun r=>[r.1,r.2])]
  ·simp only [zad,List.map_map];rfl
  ·rw [epk]
   exact ((sortI_perm ks).map _).map _
  ·rw [List.pairwise_map]
   rw [List.pairwise_map] at lt
   refine lt.imp fun {a b} h=>?_
   have n1:¬ b.1=a.1:=by omega
   have n2:¬ b.1 < a.1:=by omega
   simp [KS.lexB,n1,n2]
 have hk2:ks.length < 64:=by omega
 rw [List.map_map] at eS
 show trim Ω (outR (zd3 [some (.lst (zad rs)),none,none,none] Ω))=_
 have e:zd3 [some (.lst (zad rs)),none,none,none] Ω=some (.ret (.lst (zad (pkd rs))),[some (.lst (zad rs)),some (.cel Ω.length),x',y'],Ω ++ [.dct (zb2 ks fun k=>tot rs k)]):=by
  unfold zd3
  rw [zas (ρ1:=[some (.lst (zad rs)),some (.cel Ω.length),none,none]) (Ω':=Ω ++ [.dct []]) (by simp)]
  rw [zas (ρ1:=[some (.lst (zad rs)),some (.cel Ω.length),x',y']) (Ω':=Ω ++ [.dct (zb2 ks fun k=>tot rs k)]) (by rw [forO (S:=srcOf (.lst (zad rs)) (zad rs)) (Ω':=Ω ++ [.dct []]) (by simp)];exact q)]
  simp [hc0,eI,znq,hk2,eS]
 rw [e]
 simp [trim,znk,Cl]
def atF:Int→List Rn→Int→Int
 | _,[],_=>0
 | acc,r :: rs,p=>if p ≤ acc + r.2 then r.1 else atF (acc + r.2) rs p
theorem zmc (p:Int):∀ (rs:List Rn) (acc:Int),acc < p→p ≤ acc + sumR rs→∃ as bs t,rs=as ++ (atF acc rs p,t) :: bs∧acc + sumR as < p∧p ≤ acc + sumR as + t
 | [],acc,h1,h2=>by simp [sumR] at h2;omega
 | r :: rs,acc,h1,h2=>by
  simp only [atF]
  by_cases c:p ≤ acc + r.2
  ·rw [if_pos c]
   exact ⟨[],rs,r.2,rfl,by simp [sumR];omega,by simp [sumR];omega⟩
  ·rw [if_neg c]
   have e:sumR (r :: rs)=r.2 + sumR rs:=by simp [sumR]
   obtain ⟨as,bs,t,e1,e2,e3⟩:=zmc p rs (acc + r.2) (by omega) (by omega)
   have ea:sumR (r :: as)=r.2 + sumR as:=by simp [sumR]
   exact ⟨r :: as,bs,t,by rw [List.cons_append,← e1],by omega,by omega⟩
theorem zoT (L:A) (ok:Sto→Prop) (p:Int):∀ (rs:List Rn) (acc:Int) (x y:Option A) (Ω:Sto),(∀ Ω,ok Ω)→acc < p→p ≤ acc + sumR rs →
  ∃ ρ,fFor ok (zbl 2 (zak (gN 3) (zak (gN 4) zbo))) zdJ (zad rs) [some L,some (.int p),some (.int acc),x,y] Ω=some (.ret (.int (atF acc rs p)),ρ,Ω)
 | [],acc,x,y,Ω,_,h1,h2=>by simp [sumR] at h2;omega
 | r :: rs,acc,x,y,Ω,hok,h1,h2=>by
  have e:sumR (r :: rs)=r.2 + sumR rs:=by simp [sumR]
  have ee:zad (r :: rs)=encT r :: zad rs:=rfl
  by_cases c:p ≤ acc + r.2
  ·refine ⟨[some L,some (.int p),some (.int (acc + r.2)),some (.int r.1),some (.int r.2)],?_⟩
   rw [ee]
   simp [fFor,hok,encT,zdJ,c,atF]
  ·obtain ⟨ρ,q⟩:=zoT L ok p rs (acc + r.2) (some (.int r.1)) (some (.int r.2)) Ω hok (by omega) (by omega)
   refine ⟨ρ,?_⟩
   have ea:atF acc (r :: rs) p=atF (acc + r.2) rs p:=by simp only [atF];rw [if_neg c]
   rw [ee,ea,← q]
   exact zbp (hok _) (ρ0:=[some L,some (.int p),some (.int acc),some (.int r.1),some (.int r.2)]) (Ω0:=Ω) (by simp [encT]) (by simp [zdJ,c])
theorem M_at (rs:List Rn) (p:Int) (h1:1 ≤ p) (h2:p ≤ sumR rs) (Ω:Sto):zfF [.lst (zad rs), .int p] Ω=some (.ok (.int (atF 0 rs p)),Ω):=by
 obtain ⟨ρ,q⟩:=zoT (.lst (zad rs)) (fun Ω'=>zbj Ω' (.lst (zad rs))=some (zad rs)) p rs 0 none none Ω (fun _=>rfl) (by omega) (by omega)
 show trim Ω (outR (zgQ [some (.lst (zad rs)),some (.int p),none,none,none] Ω))=_
 have e:zgQ [some (.lst (zad rs)),some (.int p),none,none,none] Ω=some (.ret (.int (atF 0 rs p)),ρ,Ω):=by
  unfold zgQ
  rw [zas (ρ1:=[some (.lst (zad rs)),some (.int p),some (.int 0),none,none]) (Ω':=Ω) (by simp)]
  have f:sFor (vSeq (vVar 0)) (zbl 2 (zak (gN 3) (zak (gN 4) zbo))) zdJ [some (.lst (zad rs)),some (.int p),some (.int 0),none,none] Ω=some (.ret (.int (atF 0 rs p)),ρ,Ω):=by
   rw [forO (S:=srcOf (.lst (zad rs)) (zad rs)) (Ω':=Ω) (by simp)];exact q
  simp only [sSeq,f]
 rw [e]
 simp [trim,Cl]
theorem zs1 {R:List Rn} {p:Int} (h1:1 ≤ p) (h2:p ≤ sumR (pkd R)):und R (atF 0 (pkd R) p) < p∧p ≤ upt R (atF 0 (pkd R) p):=by
 obtain ⟨as,bs,t,e,e1,e2⟩:=zmc p (pkd R) 0 (by omega) (by omega)
 generalize hn0:atF 0 (pkd R) p=n at e ⊢
 have hn:n ∈ R.map (·.1):=by
  have hm:n ∈ (pkd R).map (·.1):=by rw [e];simp
  have ek:(pkd R).map (·.1)=sortI (zeA [] R):=by unfold pkd;rw [List.map_map];exact List.map_id _
  rw [ek,mem_keys] at hm
  obtain ⟨r,hr,er⟩:=hm
  exact List.mem_map.mpr ⟨r,hr,er⟩
 have hv:=zr5 (R:=R) n hn
 have lt:=znt R
 rw [e] at lt
 rw [List.map_append,List.pairwise_append] at lt
 rw [e,zj9,zqu] at hv
 ·simp only [plD,valA,List.find?_cons,decide_true,Option.map_some,Option.some.injEq,A.tup.injEq,List.cons.injEq,A.int.injEq] at hv
  omega
 ·rw [zf7]
  intro hc
  obtain ⟨q,hq,eq⟩:=List.mem_map.mp hc
  have eq':q.1=n:=by injection eq
  have:=lt.2.2 q.1 (List.mem_map_of_mem hq) n (by simp)
  omega
end M
namespace M
open PySem L2 V2
theorem zoV {p q:Int} (h:p ≤ q):∀ (rs:List Rn) (acc:Int),(rs.map (·.1)).Pairwise (· < ·)→acc < p→q ≤ acc + sumR rs→atF acc rs p ≤ atF acc rs q
 | [],acc,_,_,_=>Int.le_refl _
 | r :: rs,acc,hp,h1,h2=>by
  have e:sumR (r :: rs)=r.2 + sumR rs:=by simp [sumR]
  rw [List.map_cons,List.pairwise_cons] at hp
  simp only [atF]
  by_cases c:p ≤ acc + r.2
  ·rw [if_pos c]
   by_cases d:q ≤ acc + r.2
   ·rw [if_pos d];exact Int.le_refl _
   ·rw [if_neg d]
    obtain ⟨as,bs,t,e1,_,_⟩:=zmc q rs (acc + r.2) (by omega) (by omega)
    refine Int.le_of_lt (hp.1 _ ?_)
    generalize atF (acc + r.2) rs q=n at e1 ⊢
    rw [e1];simp
  ·rw [if_neg c,if_neg (by omega)]
   exact zoV h rs (acc + r.2) hp.2 (by omega) (by omega)
def zfm (c:Int):Int:=if c % 4=2 then c / 4 % 4 else if c % 4=3 then c / 4 % 1000 else 0
theorem zpE (c:Int):0 ≤ zfm c:=by unfold zfm;split <;> (try split) <;> omega
theorem zsk (c:Int) (Ω:Sto) (hc:0 ≤ c):zdi [.int c] Ω=some (.ok (.int (zfm c)),Ω):=by
 have h1:∀ j,CDiv j 4:=fun j=>⟨by decide,by decide⟩
 have hs:(4:Nat) ≤ sizeLine:=by decide
 have hm:c % 4=0∨c % 4=1∨c % 4=2∨c % 4=3:=by omega
 rcases hm with e | e | e | e <;> simp [zdi,ziS,e,zfm,h1,hs]
end M
namespace M
open PySem L2 V2
theorem zht (ok:Sto→Prop) (hok:∀ Ω,ok Ω) (L:List E) (Ω:Sto):∀ (rest pre:List E) (acc:Int) (x y:Option A),L=pre ++ rest →
  ∃ x' y',fFor ok (zbl 2 (zak (gN 2) (zak (gN 3) zbo))) zb7 (zaA pre.length (encL rest)) [some (.lst (encL L)),some (.int acc),x,y] Ω
   = some (.nx,[some (.lst (encL L)),some (.int (slkF acc pre.getLast? rest)),x',y'],Ω)
 | [],pre,acc,x,y,_=>⟨x,y,by cases pre.getLast? <;> simp [encL,zaA,fFor,hok,slkF]⟩
 | e :: rest,pre,acc,x,y,hL=>by
  have hL':L=(pre ++ [e]) ++ rest:=by simp [hL]
  have el:encL (e :: rest)=encE e :: encL rest:=rfl
  have glast:(pre ++ [e]).getLast? = some e:=by simp
  have glen:(pre ++ [e]).length=pre.length + 1:=by simp
  rcases List.eq_nil_or_concat pre with hp | ⟨as,q,hp⟩
  ·subst hp
   obtain ⟨x',y',r⟩:=zht ok hok L Ω rest [e] (max acc (e.2.2 - e.2.1)) (some (.int 0)) (some (encE e)) (by simpa using hL')
   refine ⟨x',y',?_⟩
   have es:slkF acc ([] : List E).getLast? (e :: rest)=slkF (max acc (e.2.2 - e.2.1)) (some e) rest:=by simp [slkF]
   rw [es,el]
   have r':=r
   simp only [List.getLast?_singleton,List.length_cons,List.length_nil,Nat.zero_add] at r'
   rw [← r']
   simp only [zaA,List.length_nil]
   exact zbp (hok _) (ρ0:=[some (.lst (encL L)),some (.int acc),some (.int 0),some (encE e)]) (Ω0:=Ω) (by simp) (by simp [zb7,encE])
  ·have hp:pre=as ++ [q]:=by simpa using hp
   subst hp
   have hx:atI (encL L) (as.length:Int)=some (encE q):=by
    rw [zde,hL]
    simp [encL]
   have hk:((as ++ [q]).length:Nat)=as.length + 1:=by simp
   obtain ⟨x',y',r⟩:=zht ok hok L Ω rest ((as ++ [q]) ++ [e]) (if q.1=e.1 then max acc (e.2.2 - e.2.1) else max (max acc (e.2.2 - e.2.1)) (e.2.2 - q.2.1 - 1)) (some (.int ((as.length:Int) + 1))) (some (encE e)) hL'
   refine ⟨x',y',?_⟩
   have es:slkF acc (as ++ [q]).getLast? (e :: rest)=slkF (if q.1=e.1 then max acc (e.2.2 - e.2.1) else max (max acc (e.2.2 - e.2.1)) (e.2.2 - q.2.1 - 1)) (some e) rest:=by simp [slkF]
   rw [glast,glen] at r
   rw [es,el,← r]
   simp only [zaA]
   have h0:(0:Int) < (as.length:Int) + 1:=by omega
   refine zbp (hok _) (ρ0:=[some (.lst (encL L)),some (.int acc),some (.int ((as.length:Int) + 1)),some (encE e)]) (Ω0:=Ω) (by simp) ?_
   by_cases c:q.1=e.1
   ·simp [zb7,encE,hx,c,h0]
   ·simp [zb7,encE,hx,c,h0]
theorem zpB (es:List E) (Ω:Sto):zcS [.lst (encL es)] Ω=some (.ok (.int (slkF 0 none es)),Ω):=by
 obtain ⟨x',y',q⟩:=zht (fun Ω'=>zaG Ω' (.lst (encL es))=some (encL es)) (fun _=>rfl) es Ω es [] 0 none none rfl
 show trim Ω (outR (zeq [some (.lst (encL es)),none,none,none] Ω))=_
 have e:zeq [some (.lst (encL es)),none,none,none] Ω=some (.ret (.int (slkF 0 none es)),[some (.lst (encL es)),some (.int (slkF 0 none es)),x',y'],Ω):=by
  unfold zeq
  rw [zas (ρ1:=[some (.lst (encL es)),some (.int 0),none,none]) (Ω':=Ω) (by simp)]
  rw [zas (ρ1:=[some (.lst (encL es)),some (.int (slkF 0 none es)),x',y']) (Ω':=Ω) (by
   rw [forO (S:=enumSrc (.lst (encL es)) (encL es)) (Ω':=Ω) (by simp)];exact q)]
  simp
 rw [e]
 simp [trim,Cl]
end M
namespace M
open PySem L2 V2
theorem zjd (p:Po) (c:Int) (hc:0 ≤ c) (hl:p.es.length ≤ 50) (Ω:Sto):∃ p',p'.es.length ≤ p.es.length + 1∧zbH [encQ p, .int c] Ω=some (.ok (encQ p'),Ω):=by
 obtain ⟨s,l,d,es⟩:=p
 have hl:es.length ≤ 50:=hl
 have h0:(0:Nat) ≤ sizeLine:=by decide
 have h1:(1:Nat) ≤ sizeLine:=by decide
 have h2:(2:Nat) ≤ sizeLine:=by decide
 have h3:(3:Nat) ≤ sizeLine:=by decide
 have h4:(4:Nat) ≤ sizeLine:=by decide
 have d10:CDiv c 10:=⟨by decide,by decide⟩
 have d40:CDiv (c / 10) 40:=⟨by decide,by decide⟩
 have d80:CDiv (c / 10) 80:=⟨by decide,by decide⟩
 have hk0:0 ≤ c / 10:=by omega
 generalize hk:c / 10=k at d40 d80 hk0
 have hlen:(encL es).length=es.length:=by simp [encL]
 have m3:k % 3=0∨k % 3=1∨k % 3=2:=by omega
 have main:∃ (p':Po),p'.es.length ≤ es.length + 1∧outR (zbK [some (encQ ⟨s,l,d,es⟩),some (.int c),none,none,none,none,none,none,none,none,none,none,none,none] Ω)=some (.ok (encQ p'),Ω):=by
  unfold zbK
  rw [zas (ρ1:=[some (encQ ⟨s,l,d,es⟩),some (.int c),some (.int s),some (.int l),some (.int d),some (.lst (encL es)),none,none,none,none,none,none,none,none]) (Ω':=Ω) (by simp [encQ,encP])]
  rw [zas (ρ1:=[some (encQ ⟨s,l,d,es⟩),some (.int c),some (.int s),some (.int l),some (.int d),some (.lst (encL es)),some (.int (c % 10)),none,none,none,none,none,none,none]) (Ω':=Ω) (by simp)]
  rw [zas (ρ1:=[some (encQ ⟨s,l,d,es⟩),some (.int c),some (.int s),some (.int l),some (.int d),some (.lst (encL es)),some (.int (c % 10)),some (.int k),none,none,none,none,none,none]) (Ω':=Ω) (by simp [d10,hk])]
  have hm:c % 10=0∨c % 10=1∨c % 10=2∨c % 10=3∨c % 10=4∨c % 10=5∨c % 10=6∨c % 10=7∨c % 10=8∨c % 10=9:=by omega
  generalize c % 10=m at hm
  by_cases e0:m=0
  ·rcases m3 with q | q | q
   ·exact ⟨⟨-1,l,d,es⟩,Nat.le_succ _,by simp [e0,q,h3,h4,encQ,encP]⟩
   ·exact ⟨⟨s,-1,d,es⟩,Nat.le_succ _,by simp [e0,q,h3,h4,encQ,encP]⟩
   ·exact ⟨⟨s,l,-1,es⟩,Nat.le_succ _,by simp [e0,q,h3,h4,encQ,encP]⟩
  rw [zas (ρ1:=[some (encQ ⟨s,l,d,es⟩),some (.int c),some (.int s),some (.int l),some (.int d),some (.lst (encL es)),some (.int m),some (.int k),none,none,none,none,none,none]) (Ω':=Ω) (by simp [e0])]
  by_cases e1:m=1
  ·rcases m3 with q | q | q
   ·exact ⟨⟨s + 1,l,d,es⟩,Nat.le_succ _,by simp [e1,q,h3,h4,encQ,encP]⟩
   ·exact ⟨⟨s + -1,l,d,es⟩,Nat.le_succ _,by simp [e1,q,h3,h4,encQ,encP]⟩
   ·exact ⟨⟨s + -s,l,d,es⟩,Nat.le_succ _,by simp [e1,q,h3,h4,encQ,encP]⟩
  rw [zas (ρ1:=[some (encQ ⟨s,l,d,es⟩),some (.int c),some (.int s),some (.int l),some (.int d),some (.lst (encL es)),some (.int m),some (.int k),none,none,none,none,none,none]) (Ω':=Ω) (by simp [e1])]
  by_cases hE:es=[]
  ·subst hE
   have gn:gEq (.lst []) (.lst []) Ω=some (.ok (.bl true),Ω):=zqU rfl
   by_cases e2:m=2
   ·exact ⟨⟨s,l,d,[(k % 7,1,1)]⟩,by simp,by simp [e2,gn,h0,h1,h2,h3,h4,encQ,encP,encL,encE]⟩
   ·exact ⟨⟨s,l,d,[(k % 7,1,1)]⟩,by simp,by simp [e2,gn,h0,h1,h2,h3,h4,encQ,encP,encL,encE]⟩
  have hE':es.isEmpty=false:=by cases es with | nil=>exact absurd rfl hE | cons=>rfl
  by_cases e2:m=2
  ·exact ⟨⟨s,l,d,[]⟩,by simp,by simp [e2,hE',h0,h1,h2,h3,h4,encQ,encP];rfl⟩
  rw [zas (ρ1:=[some (encQ ⟨s,l,d,es⟩),some (.int c),some (.int s),some (.int l),some (.int d),some (.lst (encL es)),some (.int m),some (.int k),none,none,none,none,none,none]) (Ω':=Ω) (by simp [e2,hE'])]
  have sl:=fun Ω=>zpB es Ω
  by_cases e3:m=3
  ·exact ⟨⟨s,max 0 (slkF 0 none es - 1),d,es⟩,Nat.le_succ _,by simp [e3,zaq,sl,h4,encQ,encP]⟩
  rw [zas (ρ1:=[some (encQ ⟨s,l,d,es⟩),some (.int c),some (.int s),some (.int l),some (.int d),some (.lst (encL es)),some (.int m),some (.int k),none,none,none,none,none,none]) (Ω':=Ω) (by simp [e3])]
  have hpos:0 < es.length:=List.length_pos_iff.mpr hE
  obtain ⟨n,hn⟩:=Int.eq_ofNat_of_zero_le (Int.emod_nonneg k (show (es.length:Int) ≠ 0 by omega))
  have hn1:n < es.length:=by
   have:=Int.emod_lt_of_pos k (show (0:Int) < (es.length:Int) by omega)
   rw [hn] at this
   omega
  have hposI:(0:Int) < (es.length:Int):=by omega
  rw [zas (ρ1:=[some (encQ ⟨s,l,d,es⟩),some (.int c),some (.int s),some (.int l),some (.int d),some (.lst (encL es)),some (.int m),some (.int k),some (.int n),none,none,none,none,none]) (Ω':=Ω) (by simp [hlen,hpos,hposI,hn])]
  have ct:=ztM es n (by omega)
  have cf:cutA (encL es) (some ((n:Int) + 1)) none=encL (es.drop (n + 1)):=by
   have:=zl7 es (n + 1) (by omega)
   simpa using this
  have c1:cutA (encL es) (some 1) none=encL (es.drop 1):=zl7 es 1 (by omega)
  have cL:cutA (encL es) none (some (-1))=encL (es.take (es.length - 1)):=by
   have hx:HT.sIx (encL es).length (encL es).length (some (-1))=es.length - 1:=by
    rw [hlen]
    unfold HT.sIx
    simp
    omega
   unfold cutA
   rw [HT.zgV,hx]
   simp [znc]
  obtain ⟨⟨en,ea,eb⟩,q1⟩:=znK es n hn1
  obtain ⟨⟨fn,fa,fb⟩,q0⟩:=znK es 0 hpos
  obtain ⟨⟨gn,ga,gb⟩,qL⟩:=znm es hE
  have q0:atI (encL es) 0=some (encE (fn,fa,fb)):=q0
  simp only [encE] at q1 q0 qL
  have z1:(encL (es.take n)).length ≤ 60:=by simp [encL];omega
  have z2:(encL (es.drop (n + 1))).length ≤ 60:=by simp [encL];omega
  have z3:(encL (es.drop 1)).length ≤ 60:=by simp [encL];omega
  have z4:(encL (es.take (es.length - 1))).length ≤ 60:=by simp [encL];omega
  have w1:∀ k:Nat,k ≤ 200→¬ sizeLine < k:=fun k h=>by rw [sizeLine_eq];omega
  have w2:∀ k:Nat,k ≤ 200→k ≤ sizeLine:=fun k h=>by rw [sizeLine_eq];omega
  have lt:=List.length_take (i:=n) (l:=es)
  have ld:=List.length_drop (i:=n + 1) (l:=es)
  have ld1:=List.length_drop (i:=1) (l:=es)
  have lt1:=List.length_take (i:=es.length - 1) (l:=es)
  by_cases e4:m=4
  ·exact ⟨⟨s,l,d,es.take n ++ es.drop (n + 1)⟩,by simp only [List.length_append];omega,by
    have eQ:encQ ⟨s,l,d,es.take n ++ es.drop (n + 1)⟩ = .tup [.int s, .int l, .int d, .lst (encL (es.take n) ++ encL (es.drop (n + 1)))]:=by simp [encQ,encP,encL]
    rw [eQ]
    generalize encL (es.take n)=u1 at ct z1
    generalize encL (es.drop (n + 1))=u2 at cf z2
    simp [e4,ct,cf,w1 (u1.length + u2.length) (by omega),h4]⟩
  rw [zas (ρ1:=[some (encQ ⟨s,l,d,es⟩),some (.int c),some (.int s),some (.int l),some (.int d),some (.lst (encL es)),some (.int m),some (.int k),some (.int n),none,none,none,none,none]) (Ω':=Ω) (by simp [e4])]
  by_cases e5:m=5
  ·exact ⟨⟨s,l,d,es.take n ++ [(en,ea,eb),(en,ea + k / 40 % 2,eb + k / 80 % 2)] ++ es.drop (n + 1)⟩,by simp only [List.length_append,List.length_cons,List.length_nil];omega,by
    have eE:encL (es.take n ++ [(en,ea,eb),(en,ea + k / 40 % 2,eb + k / 80 % 2)] ++ es.drop (n + 1))=encL (es.take n) ++ [A.tup [.int en, .int ea, .int eb], .tup [.int en, .int (ea + k / 40 % 2), .int (eb + k / 80 % 2)]] ++ encL (es.drop (n + 1)):=by simp [encL,encE]
    have eQ:encQ ⟨s,l,d,es.take n ++ [(en,ea,eb),(en,ea + k / 40 % 2,eb + k / 80 % 2)] ++ es.drop (n + 1)⟩ = .tup [.int s, .int l, .int d, .lst (encL (es.take n) ++ [A.tup [.int en, .int ea, .int eb], .tup [.int en, .int (ea + k / 40 % 2), .int (eb + k / 80 % 2)]] ++ encL (es.drop (n + 1)))]:=by simp only [encQ,encP];rw [eE]
    rw [eQ]
    generalize encL (es.take n)=u1 at ct z1
    generalize encL (es.drop (n + 1))=u2 at cf z2
    simp [e5,q1,d40,d80,ct,cf,w1 (u1.length + 2) (by omega),w1 (u1.length + 2 + u2.length) (by omega),w1 (u1.length + (2 + u2.length)) (by omega),h2,h3,h4]⟩
  rw [zas (ρ1:=[some (encQ ⟨s,l,d,es⟩),some (.int c),some (.int s),some (.int l),some (.int d),some (.lst (encL es)),some (.int m),some (.int k),some (.int n),none,none,none,none,none]) (Ω':=Ω) (by simp [e5])]
  by_cases e6:m=6
  ·obtain ⟨a,b,hab⟩ : ∃ a b:Int,atI [A.tup [.int 1, .int 2], .tup [.int 0, .int 1], .tup [.int 2, .int 2], .tup [.int 0, .int 0]] (k / 40 % 4)=some (.tup [.int a, .int b]):=by
    have hq:k / 40 % 4=0∨k / 40 % 4=1∨k / 40 % 4=2∨k / 40 % 4=3:=by omega
    rcases hq with q | q | q | q <;> rw [q] <;> exact ⟨_,_,rfl⟩
   exact ⟨⟨s,l,d,[(fn,a,b)] ++ es.drop 1⟩,by simp only [List.length_append,List.length_cons,List.length_nil];omega,by
    have eQ:encQ ⟨s,l,d,[(fn,a,b)] ++ es.drop 1⟩ = .tup [.int s, .int l, .int d, .lst ([A.tup [.int fn, .int a, .int b]] ++ encL (es.drop 1))]:=by simp [encQ,encP,encL,encE]
    rw [eQ]
    generalize encL (es.drop 1)=u2 at c1 z3
    simp [e6,q0,d40,hab,c1,w1 (1 + u2.length) (by omega),h1,h2,h3,h4]⟩
  rw [zas (ρ1:=[some (encQ ⟨s,l,d,es⟩),some (.int c),some (.int s),some (.int l),some (.int d),some (.lst (encL es)),some (.int m),some (.int k),some (.int n),none,none,none,none,none]) (Ω':=Ω) (by simp [e6])]
  by_cases e7:m=7
  ·obtain ⟨a,b,hab⟩ : ∃ a b:Int,atI [A.tup [.int (s - 1), .int s], .tup [.int s, .int (s + 1)], .tup [.int (s - 1), .int (s - 1)], .tup [.int (s + 1), .int (s + 1)]] (k / 40 % 4)=some (.tup [.int a, .int b]):=by
    have hq:k / 40 % 4=0∨k / 40 % 4=1∨k / 40 % 4=2∨k / 40 % 4=3:=by omega
    rcases hq with q | q | q | q <;> rw [q] <;> exact ⟨_,_,rfl⟩
   exact ⟨⟨s,l,d,es.take (es.length - 1) ++ [(gn,a,b)]⟩,by simp only [List.length_append,List.length_cons,List.length_nil];omega,by
    have eQ:encQ ⟨s,l,d,es.take (es.length - 1) ++ [(gn,a,b)]⟩ = .tup [.int s, .int l, .int d, .lst (encL (es.take (es.length - 1)) ++ [A.tup [.int gn, .int a, .int b]])]:=by simp [encQ,encP,encL,encE]
    rw [eQ]
    generalize encL (es.take (es.length - 1))=u2 at cL z4
    simp [e7,qL,d40,hab,cL,w1 (u2.length + 1) (by omega),h1,h2,h3,h4]⟩
  rw [zas (ρ1:=[some (encQ ⟨s,l,d,es⟩),some (.int c),some (.int s),some (.int l),some (.int d),some (.lst (encL es)),some (.int m),some (.int k),some (.int n),none,none,none,none,none]) (Ω':=Ω) (by simp [e7])]
  obtain ⟨⟨xn,xa,xb⟩,hx⟩:=zji ⟨s,l,d,es⟩ n hn1 (k / 40) (by omega) Ω
  exact ⟨⟨s,l,d,es.take n ++ [(xn,xa,xb)] ++ es.drop (n + 1)⟩,by simp only [List.length_append,List.length_cons,List.length_nil];omega,by
   have eQ:encQ ⟨s,l,d,es.take n ++ [(xn,xa,xb)] ++ es.drop (n + 1)⟩ = .tup [.int s, .int l, .int d, .lst (encL (es.take n) ++ [A.tup [.int xn, .int xa, .int xb]] ++ encL (es.drop (n + 1)))]:=by simp [encQ,encP,encL,encE]
   rw [eQ]
   simp only [encE] at hx
   generalize encL (es.take n)=u1 at ct z1
   generalize encL (es.drop (n + 1))=u2 at cf z2
   simp [zaq,d40,hx,ct,cf,w1 (u1.length + 1) (by omega),w1 (u1.length + 1 + u2.length) (by omega),w1 (u1.length + (1 + u2.length)) (by omega),h1,h3,h4]⟩
 obtain ⟨p',hl',q⟩:=main
 refine ⟨p',hl',?_⟩
 show trim Ω (outR (zbK [some (encQ ⟨s,l,d,es⟩),some (.int c),none,none,none,none,none,none,none,none,none,none,none,none] Ω))=_
 rw [q];simp
end M
namespace M
open PySem L2 V2
def dctB (ks:List Int):List (Key × A):=ks.map fun k=>(.inl k, .bl true)
theorem zkM (ks:List Int) (n:Int):putA (dctB ks) (.inl n) (.bl true)=dctB (addK ks n):=by
 have ha:((dctB ks).any fun kv=>decide (kv.1=(Sum.inl n:Key)))=decide (n ∈ ks):=by
  rw [Bool.eq_iff_iff]
  simp only [dctB,List.any_map,List.any_eq_true,decide_eq_true_eq,Function.comp]
  constructor
  ·rintro ⟨k,hk,e⟩
   have:k=n:=by injection e
   subst this;exact hk
  ·intro h;exact ⟨n,h,rfl⟩
 unfold putA addK
 rw [ha]
 by_cases h:n ∈ ks
 ·simp only [h,decide_true,if_true]
  simp only [dctB,List.map_map]
  refine List.map_congr_left fun k _=>?_
  simp only [Function.comp]
  split <;> rfl
 ·simp only [h,decide_false,if_false]
  simp [dctB]
structure PlOk (N:Int) (ks:List Int):Prop where
 nd:ks.Nodup
 rg:∀ k ∈ ks,1 ≤ k∧k ≤ N
 one:1 ∈ ks
 top:N ∈ ks
theorem PlOk.add {N n:Int} {ks:List Int} (h:PlOk N ks) (h1:1 ≤ n) (h2:n ≤ N):PlOk N (addK ks n) where
 nd:=zhL h.nd
 rg:=fun k hk=>(zey.mp hk).elim (h.rg k) fun e=>by subst e;exact ⟨h1,h2⟩
 one:=zey.mpr (.inl h.one)
 top:=zey.mpr (.inl h.top)
theorem zom {N:Int} (h:1 ≤ N):PlOk N (addK [1] N) where
 nd:=zhL (by simp)
 rg:=fun k hk=>(zey.mp hk).elim (fun z=>by have e:k=1:=(by simpa using z);omega) fun e=>by omega
 one:=zey.mpr (.inl (by simp))
 top:=zey.mpr (.inr rfl)
theorem zmE (c N i:Int) (ks:List Int) (Ω:Sto) (hc:0 ≤ c) (hc1:c < 8589934592) (hi:0 ≤ i) (hi1:i < 1048576) (hN:1 ≤ N) (hk:PlOk N ks) (hz:ks.length < 100) (x y:Option A) :
  ∃ n x' y',1 ≤ n∧n ≤ N∧zbr [some (.int c),some (.int N),some (.cel Ω.length),some (.int i),x,y] (Ω ++ [.dct (dctB ks)])
   = some (.nx,[some (.int c),some (.int N),some (.cel Ω.length),some (.int i),x',y'],Ω ++ [.dct (dctB (addK ks n))]):=by
 have m:=fun Ω=>zi6 c i Ω hc hc1 hi hi1
 have m0:=mix0 c i
 generalize mixI c i=s at m m0
 have hd:ze8 (Ω ++ [.dct (dctB ks)]) (.cel Ω.length)=some (Ω.length,dctB ks):=zeg (by simp)
 have hsz:(dctB ks).length < sizeLine:=by rw [sizeLine_eq];simp [dctB];omega
 have d5:∀ j,CDiv j 5:=fun j=>⟨by decide,by decide⟩
 have hN0:0 < N:=by omega
 have h9:0 < min N 9:=by omega
 have e1:=Int.emod_nonneg s (show N ≠ 0 by omega)
 have e2:=Int.emod_lt_of_pos s hN0
 have e3:=Int.emod_nonneg s (show min N 9 ≠ 0 by omega)
 have e4:=Int.emod_lt_of_pos s h9
 by_cases t:s / 5 % 3=0
 ·refine ⟨1 + s % min N 9,some (.int s),some (.int (1 + s % min N 9)),by omega,by omega,?_⟩
  have p:=zkM ks (1 + s % min N 9)
  simp [zbr,zaq,m,hN0,h9,t,d5,hd,keyA,hsz,p]
 ·refine ⟨1 + s % N,some (.int s),some (.int (1 + s % N)),by omega,by omega,?_⟩
  have p:=zkM ks (1 + s % N)
  simp [zbr,zaq,m,hN0,t,d5,hd,keyA,hsz,p]
theorem zlO (ok:Sto→Prop) (hok:∀ Ω,ok Ω) (c N:Int) (Ω:Sto) (hc:0 ≤ c) (hc1:c < 8589934592) (hN:1 ≤ N) (m:Nat):∀ (j:Nat) (ks:List Int) (z x y:Option A),PlOk N ks→ks.length + m ≤ 60→j + m ≤ 100 →
  ∃ ks' z' x' y',PlOk N ks'∧ks'.length ≤ ks.length + m∧fFor ok (gN 3) zbr ((List.range' j m).map fun (i:Nat)=>A.int ((0:Int) + (i:Int))) [some (.int c),some (.int N),some (.cel Ω.length),z,x,y] (Ω ++ [.dct (dctB ks)])
   = some (.nx,[some (.int c),some (.int N),some (.cel Ω.length),z',x',y'],Ω ++ [.dct (dctB ks')]):=by
 induction m with
 | zero=>intro j ks z x y hk _ _;exact ⟨ks,z,x,y,hk,Nat.le_refl _,by simp [fFor,hok]⟩
 | succ m ih =>
  intro j ks z x y hk hl hj
  have i0:0 ≤ (0:Int) + (j:Int):=by omega
  have i1:(0:Int) + (j:Int) < 1048576:=by omega
  have l1:ks.length < 100:=by omega
  obtain ⟨n,x1,y1,h1,h2,q⟩:=zmE c N ((0:Int) + (j:Int)) ks Ω hc hc1 i0 i1 hN hk l1 x y
  have ln:=zin ks n
  have l2:(addK ks n).length + m ≤ 60:=by omega
  have l3:j + 1 + m ≤ 100:=by omega
  obtain ⟨ks',z',x',y',r1,r2,r3⟩:=ih (j + 1) (addK ks n) (some (.int ((0:Int) + (j:Int)))) x1 y1 (hk.add h1 h2) l2 l3
  refine ⟨ks',z',x',y',r1,by omega,?_⟩
  rw [List.range'_succ,List.map_cons,← r3]
  generalize (0:Int) + (j:Int)=i at q
  have hg:gN 3 (A.int i) [some (.int c),some (.int N),some (.cel Ω.length),z,x,y] (Ω ++ [.dct (dctB ks)])=some (.nx,[some (.int c),some (.int N),some (.cel Ω.length),some (.int i),x,y],Ω ++ [.dct (dctB ks)]):=by simp
  rw [zbp (hok _) hg q]
end M
namespace M
open PySem L2 V2
theorem zvj {N:Int}:∀ (ps:List Int) (z:Int),ps.Pairwise (· < ·)→(∀ p ∈ ps,z < p∧p ≤ N)→z ≤ N→(z=N∨N ∈ ps)→Up N z ps
 | [],z,_,_,_,ht=>ht.elim id fun h=>by cases h
 | p :: ps,z,hp,hr,hz,ht=>by
  rw [List.pairwise_cons] at hp
  have h1:=hr p (List.mem_cons_self ..)
  refine ⟨h1.1,zvj ps p hp.2 (fun q hq=>⟨hp.1 q hq,(hr q (List.mem_cons_of_mem _ hq)).2⟩) h1.2 ?_⟩
  rcases ht with e | h
  ·omega
  ·rcases List.mem_cons.mp h with e | h
   ·exact .inl e.symm
   ·exact .inr h
theorem zmu {N:Int} {ks:List Int} (h:PlOk N ks):∃ ps,sortI ks=1 :: ps∧Up N 1 ps∧ps.length + 1=ks.length:=by
 have hp:=sortI_perm ks
 have hm:∀ k,k ∈ sortI ks↔k ∈ ks:=fun k=>hp.mem_iff
 have hlt:(sortI ks).Pairwise (· < ·):=by
  have nd:(sortI ks).Nodup:=hp.nodup_iff.mpr h.nd
  exact (List.Pairwise.and (zjZ ks) nd).imp fun {a b} z=>by omega
 have hl:=zew ks
 cases e:sortI ks with
 | nil=>have:=(hm 1).mpr h.one;rw [e] at this;cases this
 | cons a ps =>
  rw [e] at hlt hm hl
  rw [List.pairwise_cons] at hlt
  have ha:=h.rg a ((hm a).mp (List.mem_cons_self ..))
  have h1:a=1:=by
   rcases List.mem_cons.mp ((hm 1).mpr h.one) with z | z
   ·exact z.symm
   ·have:=hlt.1 1 z;omega
  subst h1
  refine ⟨ps,rfl,zvj ps 1 hlt.2 (fun q hq=>⟨hlt.1 q hq,(h.rg q ((hm q).mp (List.mem_cons_of_mem _ hq))).2⟩) ha.2 ?_,by simpa using hl⟩
  rcases List.mem_cons.mp ((hm N).mpr h.top) with z | z
  ·exact .inl z.symm
  ·exact .inr z
end M
namespace M
open PySem L2 V2
theorem zoR (ks:List Int):intsOf ((dctB ks).map fun kv=>kA kv.1)=some ks:=by
 induction ks with
 | nil=>rfl
 | cons k ks ih =>
  have e:((dctB (k :: ks)).map fun kv=>kA kv.1)=A.int k :: ((dctB ks).map fun kv=>kA kv.1):=rfl
  rw [e]
  simp only [intsOf,ih]
  rfl
theorem zrA (c N:Int) (hc:0 ≤ c) (hc1:c < 8589934592) (hN:1 ≤ N) (Ω:Sto):∃ ps,Up N 1 ps∧ps.length ≤ 30∧zcy [.int c, .int N] Ω=some (.ok (.lst ((1 :: ps).map A.int)),Ω):=by
 have hs:=zom hN
 have hl0:(addK [1] N).length ≤ 2:=zin [1] N
 have hm0:=Int.emod_nonneg c (show (30:Int) ≠ 0 by decide)
 have hm1:=Int.emod_lt_of_pos c (show (0:Int) < 30 by decide)
 have hm2:(c % 30).toNat < 30:=by omega
 obtain ⟨ks,z',x',y',hk,hl,q⟩:=zlO (fun _=>True) (fun _=>trivial) c N Ω hc hc1 hN (c % 30).toNat 0 (addK [1] N) none none none hs (by omega) (by omega)
 rw [← List.range_eq_range'] at q
 obtain ⟨ps,e1,e2,e3⟩:=zmu hk
 refine ⟨ps,e2,by omega,?_⟩
 have p0:putA [] (.inl 1) (.bl true)=dctB [1]:=rfl
 have p1:=zkM [1] N
 have hd:ze8 (Ω ++ [.dct (dctB ks)]) (.cel Ω.length)=some (Ω.length,dctB ks):=zeg (by simp)
 have hks:ks.length < 64:=by omega
 show trim Ω (outR (zcv [some (.int c),some (.int N),none,none,none,none] Ω))=_
 have e:zcv [some (.int c),some (.int N),none,none,none,none] Ω=some (.ret (.lst ((1 :: ps).map A.int)),[some (.int c),some (.int N),some (.cel Ω.length),z',x',y'],Ω ++ [.dct (dctB ks)]):=by
  unfold zcv
  rw [zas (ρ1:=[some (.int c),some (.int N),some (.cel Ω.length),none,none,none]) (Ω':=Ω ++ [.dct (dctB (addK [1] N))]) (by simp [keyA,p0,p1])]
  rw [zas (ρ1:=[some (.int c),some (.int N),some (.cel Ω.length),z',x',y']) (Ω':=Ω ++ [.dct (dctB ks)]) (by
   rw [forO (S:=zeN 0 (c % 30).toNat) (Ω':=Ω ++ [.dct (dctB (addK [1] N))]) (rngO (by simp) (by unfold zb6;omega))]
   exact q)]
  have hi:=zoR ks
  simp only [sRet,vCl,zac,a0]
  simp [hd,hi,hks,e1]
 rw [e]
 have hcl:ClL Ω.length ((1 :: ps).map A.int):=zg5 fun a h=>by
  obtain ⟨i,_,rfl⟩:=List.mem_map.mp h
  simp [Cl]
 simp [trim,Cl]
 exact if_pos ⟨by simp,hcl⟩
end M
namespace M
open PySem L2 V2
theorem zw0 (Ω:Sto) (a b c:Cell):(Ω ++ [a,b]).set Ω.length c=Ω ++ [c,b]:=by simp
theorem zvq (Ω:Sto) (a b c:Cell):(Ω ++ [a,b]).set (Ω.length + 1) c=Ω ++ [a,c]:=by
 rw [List.set_append_right _ _ (by omega)];simp
end M
namespace M
open PySem L2 V2
end M
namespace M
open PySem L2 V2
end M
namespace M
open PySem L2 V2
theorem zmY (xs:List Int) (lo:Int):atI ((xs ++ [lo]).map A.int) (-1)=some (.int lo):=by
 unfold atI ixN
 have h1:¬ (0:Int) ≤ -1:=by decide
 rw [if_neg h1]
 have h2:(-1 + ((xs.length:Int) + 1)).toNat=xs.length:=by omega
 have h3:(1:Int) ≤ (xs.length:Int) + 1:=by omega
 simp [h2,h3]
theorem zrk (r P V:Option A) (c N p lo:Int) (k:Nat) (xs:List Int) (C:Cell) (x9 x10:Option A) (Ω:Sto) (hc:0 ≤ c) (hc1:c < 8589934592) (hk:k < 100) (hz:xs.length < 100) :
  ∃ y9,zce [r,P,some (.int c),V,some (.int N),some (.cel Ω.length),some (.cel (Ω.length + 1)),some (.int (k:Int)),some (.int p),x9,x10] (Ω ++ [.lst ((xs ++ [lo]).map A.int),C])
   = some (.nx,[r,P,some (.int c),V,some (.int N),some (.cel Ω.length),some (.cel (Ω.length + 1)),some (.int (k:Int)),some (.int p),y9,x10],
    Ω ++ [.lst ((xs ++ [lo] ++ [if p=N then p else max (lo + 1) (p - zfm (mixI c (60 + (k:Int))))]).map A.int),C]):=by
 have m:=fun Ω=>zi6 c (60 + (k:Int)) Ω hc hc1 (by omega) (by omega)
 have w:=fun Ω=>zsk (mixI c (60 + (k:Int))) Ω (mix0 _ _)
 have hl:=zmY xs lo
 have hs:∀ D,zbj (Ω ++ [.lst ((xs ++ [lo]).map A.int),D]) (.cel Ω.length)=some ((xs ++ [lo]).map A.int):=fun D=>by simp [zbj,zaG]
 have h2:(2:Nat) ≤ sizeLine:=by decide
 have hz2:((xs ++ [lo]).map A.int).length < sizeLine:=by rw [sizeLine_eq];simp;omega
 generalize mixI c (60 + (k:Int))=s at m w
 have hcl:zju (Ω ++ [.lst ((xs ++ [lo]).map A.int),C]) (.cel Ω.length)=some (Ω.length,(xs ++ [lo]).map A.int):=by simp [zju]
 refine ⟨some (.int (max (lo + 1) (p - zfm s))),?_⟩
 simp only [zce]
 rw [zas (ρ1:=[r,P,some (.int c),V,some (.int N),some (.cel Ω.length),some (.cel (Ω.length + 1)),some (.int (k:Int)),some (.int p),some (.int (max (lo + 1) (p - zfm s))),x10]) (Ω':=Ω ++ [.lst ((xs ++ [lo]).map A.int),C]) (by
  simp only [List.map_append,List.map_cons,List.map_nil] at hs hl
  simp [zaq,m,w,hs,hl])]
 simp only [List.map_append,List.map_cons,List.map_nil,List.length_append,List.length_cons,List.length_nil] at hcl hz2
 have hI:isL (Ω ++ [.lst (xs.map A.int ++ [.int lo]),C]) (.cel Ω.length)=true:=by simp [isL];exact ⟨_,by simp [zaG];rfl⟩
 have hz3:xs.length + 1 < sizeLine:=by rw [sizeLine_eq];omega
 by_cases e:p=N
 ·simp [e,h2,hcl,hI,hz3]
 ·simp [e,h2,hcl,hI,hz3]
theorem zrE (r P V:Option A) (c N p hi:Int) (k:Nat) (xs:List Int) (C:Cell) (x9 x10:Option A) (Ω:Sto) (hc:0 ≤ c) (hc1:c < 8589934592) (hk:k < 100) (hz:xs.length < 100) :
  ∃ y10,zck [r,P,some (.int c),V,some (.int N),some (.cel Ω.length),some (.cel (Ω.length + 1)),some (.int (k:Int)),some (.int p),x9,x10] (Ω ++ [C, .lst ((xs ++ [hi]).map A.int)])
   = some (.nx,[r,P,some (.int c),V,some (.int N),some (.cel Ω.length),some (.cel (Ω.length + 1)),some (.int (k:Int)),some (.int p),x9,y10],
    Ω ++ [C, .lst ((xs ++ [hi] ++ [if p=1 then p else min (hi - 1) (p + zfm (mixI c (120 + (k:Int))))]).map A.int)]):=by
 have m:=fun Ω=>zi6 c (120 + (k:Int)) Ω hc hc1 (by omega) (by omega)
 have w:=fun Ω=>zsk (mixI c (120 + (k:Int))) Ω (mix0 _ _)
 have hl:=zmY xs hi
 have hg:(Ω ++ [C, .lst ((xs ++ [hi]).map A.int)])[Ω.length + 1]? = some (.lst ((xs ++ [hi]).map A.int)):=by simp
 have hs:zbj (Ω ++ [C, .lst ((xs ++ [hi]).map A.int)]) (.cel (Ω.length + 1))=some ((xs ++ [hi]).map A.int):=by simp [zbj,zaG,hg]
 have h2:(2:Nat) ≤ sizeLine:=by decide
 have hcl:zju (Ω ++ [C, .lst ((xs ++ [hi]).map A.int)]) (.cel (Ω.length + 1))=some (Ω.length + 1,(xs ++ [hi]).map A.int):=zl2 hg
 have hI:isL (Ω ++ [C, .lst ((xs ++ [hi]).map A.int)]) (.cel (Ω.length + 1))=true:=by simp [isL];exact ⟨_,by simp [zaG];rfl⟩
 have hz3:xs.length + 1 < sizeLine:=by rw [sizeLine_eq];omega
 generalize mixI c (120 + (k:Int))=s at m w
 refine ⟨some (.int (min (hi - 1) (p + zfm s))),?_⟩
 simp only [zck]
 simp only [List.map_append,List.map_cons,List.map_nil] at hs hl hcl hI
 rw [zas (ρ1:=[r,P,some (.int c),V,some (.int N),some (.cel Ω.length),some (.cel (Ω.length + 1)),some (.int (k:Int)),some (.int p),x9,some (.int (min (hi - 1) (p + zfm s)))]) (Ω':=Ω ++ [C, .lst ((xs ++ [hi]).map A.int)]) (by
  simp [zaq,m,w,hs,hl])]
 by_cases e:p=1
 ·simp [e,h2,hcl,hI,hz3,zvq]
 ·simp [e,h2,hcl,hI,hz3,zvq]
end M
namespace M
open PySem L2 V2
def fW (c:Int) (k:Nat):Int:=zfm (mixI c (60 + (k:Int)))
def gW (c:Int) (k:Nat):Int:=zfm (mixI c (120 + (k:Int)))
theorem zqT (ok:Sto→Prop) (hok:∀ Ω,ok Ω) (r P V x10:Option A) (c N:Int) (C:Cell) (Ω:Sto) (hc:0 ≤ c) (hc1:c < 8589934592):∀ (ps:List Int) (k:Nat) (lo:Int) (xs:List Int) (x7 x8 x9:Option A),k + ps.length < 90→xs.length + ps.length < 90 →
  ∃ y7 y8 y9,fFor ok (zbl 2 (zak (gN 7) (zak (gN 8) zbo))) zce (zaA k (ps.map A.int)) [r,P,some (.int c),V,some (.int N),some (.cel Ω.length),some (.cel (Ω.length + 1)),x7,x8,x9,x10] (Ω ++ [.lst ((xs ++ [lo]).map A.int),C])
   = some (.nx,[r,P,some (.int c),V,some (.int N),some (.cel Ω.length),some (.cel (Ω.length + 1)),y7,y8,y9,x10],Ω ++ [.lst ((xs ++ [lo] ++ leaF N (fW c) k lo ps).map A.int),C]):=by
 intro ps
 induction ps with
 | nil=>intro k lo xs x7 x8 x9 _ _;exact ⟨x7,x8,x9,by simp [zaA,fFor,hok,leaF]⟩
 | cons p ps ih =>
  intro k lo xs x7 x8 x9 h1 h2
  simp only [List.length_cons] at h1 h2
  obtain ⟨z9,q⟩:=zrk r P V c N p lo k xs C x9 x10 Ω hc hc1 (by omega) (by omega)
  obtain ⟨y7,y8,y9,s⟩:=ih (k + 1) (if p=N then p else max (lo + 1) (p - zfm (mixI c (60 + (k:Int))))) (xs ++ [lo]) (some (.int (k:Int))) (some (.int p)) z9 (by omega) (by simp;omega)
  refine ⟨y7,y8,y9,?_⟩
  have hg:zbl 2 (zak (gN 7) (zak (gN 8) zbo)) (.tup [.int (k:Int), .int p]) [r,P,some (.int c),V,some (.int N),some (.cel Ω.length),some (.cel (Ω.length + 1)),x7,x8,x9,x10] (Ω ++ [.lst ((xs ++ [lo]).map A.int),C])
   = some (.nx,[r,P,some (.int c),V,some (.int N),some (.cel Ω.length),some (.cel (Ω.length + 1)),some (.int (k:Int)),some (.int p),x9,x10],Ω ++ [.lst ((xs ++ [lo]).map A.int),C]):=by simp
  have e:zaA k ((p :: ps).map A.int) = .tup [.int (k:Int), .int p] :: zaA (k + 1) (ps.map A.int):=rfl
  have e2:xs ++ [lo] ++ leaF N (fW c) k lo (p :: ps)=xs ++ [lo] ++ [if p=N then p else max (lo + 1) (p - zfm (mixI c (60 + (k:Int))))] ++ leaF N (fW c) (k + 1) (if p=N then p else max (lo + 1) (p - zfm (mixI c (60 + (k:Int))))) ps:=by
   simp only [leaF,fW,List.append_assoc,List.cons_append,List.nil_append]
  rw [e,e2,zbp (hok _) hg q]
  exact s
def mosR (g:Nat→Int):Nat→Int→List Int→List Int
 | _,_,[]=>[]
 | k,hi,p :: ps=>(if p=1 then p else min (hi - 1) (p + g k)) :: mosR g (k + 1) (if p=1 then p else min (hi - 1) (p + g k)) ps
theorem zqI (ok:Sto→Prop) (hok:∀ Ω,ok Ω) (r P V x9:Option A) (c N:Int) (C:Cell) (Ω:Sto) (hc:0 ≤ c) (hc1:c < 8589934592):∀ (ps:List Int) (k:Nat) (hi:Int) (xs:List Int) (x7 x8 x10:Option A),k + ps.length < 90→xs.length + ps.length < 90 →
  ∃ y7 y8 y10,fFor ok (zbl 2 (zak (gN 7) (zak (gN 8) zbo))) zck (zaA k (ps.map A.int)) [r,P,some (.int c),V,some (.int N),some (.cel Ω.length),some (.cel (Ω.length + 1)),x7,x8,x9,x10] (Ω ++ [C, .lst ((xs ++ [hi]).map A.int)])
   = some (.nx,[r,P,some (.int c),V,some (.int N),some (.cel Ω.length),some (.cel (Ω.length + 1)),y7,y8,x9,y10],Ω ++ [C, .lst ((xs ++ [hi] ++ mosR (gW c) k hi ps).map A.int)]):=by
 intro ps
 induction ps with
 | nil=>intro k hi xs x7 x8 x10 _ _;exact ⟨x7,x8,x10,by simp [zaA,fFor,hok,mosR]⟩
 | cons p ps ih =>
  intro k hi xs x7 x8 x10 h1 h2
  simp only [List.length_cons] at h1 h2
  obtain ⟨z10,q⟩:=zrE r P V c N p hi k xs C x9 x10 Ω hc hc1 (by omega) (by omega)
  obtain ⟨y7,y8,y10,s⟩:=ih (k + 1) (if p=1 then p else min (hi - 1) (p + zfm (mixI c (120 + (k:Int))))) (xs ++ [hi]) (some (.int (k:Int))) (some (.int p)) z10 (by omega) (by simp;omega)
  refine ⟨y7,y8,y10,?_⟩
  have hg:zbl 2 (zak (gN 7) (zak (gN 8) zbo)) (.tup [.int (k:Int), .int p]) [r,P,some (.int c),V,some (.int N),some (.cel Ω.length),some (.cel (Ω.length + 1)),x7,x8,x9,x10] (Ω ++ [C, .lst ((xs ++ [hi]).map A.int)])
   = some (.nx,[r,P,some (.int c),V,some (.int N),some (.cel Ω.length),some (.cel (Ω.length + 1)),some (.int (k:Int)),some (.int p),x9,x10],Ω ++ [C, .lst ((xs ++ [hi]).map A.int)]):=by simp
  have e:zaA k ((p :: ps).map A.int) = .tup [.int (k:Int), .int p] :: zaA (k + 1) (ps.map A.int):=rfl
  have e2:xs ++ [hi] ++ mosR (gW c) k hi (p :: ps)=xs ++ [hi] ++ [if p=1 then p else min (hi - 1) (p + zfm (mixI c (120 + (k:Int))))] ++ mosR (gW c) (k + 1) (if p=1 then p else min (hi - 1) (p + zfm (mixI c (120 + (k:Int))))) ps:=by
   simp only [mosR,gW,List.append_assoc,List.cons_append,List.nil_append]
  rw [e,e2,zbp (hok _) hg q]
  exact s
theorem zlF (g:Nat→Int) (p:Int):∀ (qs:List Int) (k:Nat) (hi:Int),mosR g k hi (qs ++ [p])=mosR g k hi qs ++ [if p=1 then p else min ((mosR g k hi qs).getLastD hi - 1) (p + g (k + qs.length))]
 | [],k,hi=>by simp [mosR]
 | q :: qs,k,hi=>by
  have e:k + 1 + qs.length=k + (q :: qs).length:=by simp;omega
  simp only [List.cons_append,mosR,zlF g p qs,e]
  rw [List.getLastD_cons]
theorem zni (N:Int) (g:Nat→Int):∀ (ps:List Int),mosR g 0 (N + 1) ps.reverse=(mosF N g ps).reverse
 | []=>rfl
 | p :: ps=>by
  rw [List.reverse_cons,zlF,zni N g ps]
  have e:(mosF N g ps).reverse.getLastD (N + 1)=(mosF N g ps).headD (N + 1):=by
   cases mosF N g ps <;> simp
  rw [e,mosF,List.reverse_cons]
  simp
end M
namespace M
open PySem L2 V2
theorem ztg {n:Nat} {js:List Nat} {fi:Ev→Mo Src} {g:A→MS} {c:Ev→Mo Bool} {e:Ev→Mo A} {ρ:Ev} {Ω Ω0:Sto} {S:Src} (F:A→Option A) (P:Ev→Prop) (hfi:fi ρ Ω=some (.ok S,Ω0)) (hok:∀ ys,S.ok (Ω0 ++ [.lst ys])) (hP:P (lcEv n js ρ)) (hl:S.ds.length ≤ 1000000)
  (turn:∀ x ∈ S.ds,∀ ρ,P ρ→∀ ys,∃ ρ1,P ρ1∧g x ρ (Ω0 ++ [.lst ys])=some (.nx,ρ1,Ω0 ++ [.lst ys])∧((∃ y,F x=some y∧c ρ1 (Ω0 ++ [.lst ys])=some (.ok true,Ω0 ++ [.lst ys])∧e ρ1 (Ω0 ++ [.lst ys])=some (.ok y,Ω0 ++ [.lst ys]))∨(F x=none∧c ρ1 (Ω0 ++ [.lst ys])=some (.ok false,Ω0 ++ [.lst ys])))):vLC true n js fi g c e ρ Ω=some (.ok (.cel Ω0.length),Ω0 ++ [.lst (S.ds.filterMap F)]):=by
 obtain ⟨ρ',q⟩:=ziu F P Ω0 hok S.ds (lcEv n js ρ) [] hP (by simpa using hl) turn
 simp [vLC,mb,hfi,q,zrW]
theorem zqh {N:Int}:∀ (ps:List Int) (z:Int),Up N z ps→∃ xs,z :: ps=xs ++ [N]
 | [],z,h=>⟨[],by have e:z=N:=h;simp [e]⟩
 | p :: ps,z,h=>by
  obtain ⟨xs,e⟩:=zqh ps p h.2
  exact ⟨z :: xs,by rw [e];rfl⟩
end M
namespace M
open PySem L2 V2
theorem zrp (ρ:Ev) (C:Cell) (xs:List Int) (Ω:Sto) (h6:ρ[6]? = some (some (.cel (Ω.length + 1)))) (hl:xs.length ≤ 100) :
  zdk ρ (Ω ++ [C, .lst (xs.map A.int)])=some (.ok (.cel (Ω.length + 2)),Ω ++ [C, .lst (xs.map A.int), .lst (xs.reverse.map A.int)]):=by
 have hg:∀ D,(Ω ++ C :: .lst (xs.map A.int) :: D)[Ω.length + 1]? = some (.lst (xs.map A.int)):=fun D=>by simp
 have hli:∀ D,zaG (Ω ++ C :: .lst (xs.map A.int) :: D) (.cel (Ω.length + 1))=some (xs.map A.int):=fun D=>by simp [zaG,hg]
 have key:=ztg (n:=1) (js:=[]) (fi:=zs2 (vVar 6)) (g:=gN 0) (c:=yesM) (e:=vVar 0) (ρ:=ρ) (Ω:=Ω ++ [C, .lst (xs.map A.int)]) (Ω0:=Ω ++ [C, .lst (xs.map A.int)]) (S:=zh1 (.cel (Ω.length + 1)) (xs.map A.int))
  (fun a=>some a) (fun ρ=>∃ v,ρ=[v]) (by have:=hli [];simp [vVar,h6,this]) (fun ys=>by
   show zaG _ _=_
   have:=hli [.lst ys]
   simpa using this) ⟨none,by simp [lcEv]⟩ (by simp [zh1];omega)
  (by
   rintro x hx ρ ⟨v,rfl⟩ ys
   exact ⟨[some x],⟨_,rfl⟩,by simp, .inl ⟨x,rfl,by simp [yesM],by simp⟩⟩)
 have e:(zh1 (.cel (Ω.length + 1)) (xs.map A.int)).ds.filterMap (fun a=>some a)=xs.reverse.map A.int:=by
  simp [zh1,List.map_reverse]
 rw [e] at key
 unfold zdk
 rw [key]
 simp
end M
namespace M
open PySem L2 V2
def entA (v:Int→Int) (ls ms:List Int):A→Option A
 | .tup [.int k, .int p]=>some (encE (v p,ls.getD (k.toNat + 1) 0,ms.getD k.toNat 0))
 | _=>none
theorem zo0 (v:Int→Int) (ls ms:List Int):∀ (qs:List Int) (k:Nat),k + 1 + qs.length ≤ ls.length→k + qs.length ≤ ms.length →
  (zaA k (qs.map A.int)).filterMap (entA v ls ms)=encL (ent3 v qs (ls.drop (k + 1)) (ms.drop k))
 | [],k,_,_=>by simp [zaA,ent3,encL]
 | q :: qs,k,h1,h2=>by
  simp only [List.length_cons] at h1 h2
  have i:=zo0 v ls ms qs (k + 1) (by omega) (by omega)
  have a1:k + 1 < ls.length:=by omega
  have a2:k < ms.length:=by omega
  have e:zaA k ((q :: qs).map A.int) = .tup [.int (k:Int), .int q] :: zaA (k + 1) (qs.map A.int):=rfl
  rw [e,List.filterMap_cons,i,List.drop_eq_getElem_cons a1,List.drop_eq_getElem_cons a2]
  simp only [entA,ent3,encL,List.map_cons,Int.toNat_natCast]
  congr 1
  simp [encE,List.getD_eq_getElem?_getD,List.getElem?_eq_getElem a1,List.getElem?_eq_getElem a2]
theorem zu2 (ρ:Ev) (R:List Rn) (qs ls ms:List Int) (Ω:Sto) (D1 D2:Cell) (h1:ρ[1]? = some (some (.lst (qs.map A.int)))) (h3:ρ[3]? = some (some (.lst (zad (pkd R))))) (h5:ρ[5]? = some (some (.cel Ω.length))) (h6:ρ[6]? = some (some (.cel (Ω.length + 2))))
  (hq:∀ p ∈ qs,1 ≤ p∧p ≤ sumR (pkd R)) (hz:qs.length ≤ 90) (l1:ls.length=qs.length + 1) (l2:qs.length ≤ ms.length) :
  zeL ρ (Ω ++ [.lst (ls.map A.int),D1, .lst (ms.map A.int)])=some (.ok (.lst (encL (ent3 (atF 0 (pkd R)) qs (ls.drop 1) ms))),Ω ++ [.lst (ls.map A.int),D1, .lst (ms.map A.int)]):=by
 have hs5:∀ T,zbj (Ω ++ .lst (ls.map A.int) :: D1 :: .lst (ms.map A.int) :: T) (.cel Ω.length)=some (ls.map A.int):=fun T=>by simp [zbj,zaG]
 have hs6:∀ T,zbj (Ω ++ .lst (ls.map A.int) :: D1 :: .lst (ms.map A.int) :: T) (.cel (Ω.length + 2))=some (ms.map A.int):=fun T=>by simp [zbj,zaG]
 have em:=zo0 (atF 0 (pkd R)) ls ms qs 0 (by omega) (by omega)
 have h2:(3:Nat) ≤ sizeLine:=by decide
 have key:=zf9 (n:=2) (js:=[3,5,6]) (fi:=zgK (vVar 1)) (g:=zbl 2 (zak (gN 0) (zak (gN 1) zbo))) (c:=yesM)
  (e:=(vTup (zac (vCl (noX (zaq 2 zfF)) (zac (vVar 2) (zac (vVar 1) a0))) (zac (vOp gIx (vVar 3) (vOp (gAdd false) (vVar 0) (cI 1))) (zac (vOp gIx (vVar 4) (vVar 0)) a0)))))
  (ρ:=ρ) (Ω:=Ω ++ [.lst (ls.map A.int),D1, .lst (ms.map A.int)]) (Ω0:=Ω ++ [.lst (ls.map A.int),D1, .lst (ms.map A.int)]) (S:=enumSrc (.lst (qs.map A.int)) (qs.map A.int))
  (entA (atF 0 (pkd R)) ls ms) (fun ρ=>∃ u v,ρ=[u,v,some (.lst (zad (pkd R))),some (.cel Ω.length),some (.cel (Ω.length + 2))]) (by simp [vVar,h1]) (fun ys=>rfl) ⟨none,none,by simp [lcEv,h3,h5,h6]⟩ (by simp [enumSrc,zf6];omega)
  (by
   rintro x hx ρ ⟨u,w,rfl⟩ ys
   obtain ⟨i,hi,hxi⟩:=List.mem_iff_getElem?.mp hx |>.imp fun i h=>(⟨by have:=(List.getElem?_eq_some_iff.mp h).1;simpa [enumSrc,zf6] using this,h⟩ : i < qs.length∧_)
   have hxi:(zaA 0 (qs.map A.int))[i]? = some x:=hxi
   rw [zik,List.getElem?_map,List.getElem?_eq_getElem hi] at hxi
   simp only [Option.map_some,Option.some.injEq,Nat.zero_add] at hxi
   subst hxi
   have hp:=hq qs[i] (List.getElem_mem hi)
   have ma:=fun Ω=>M_at (pkd R) qs[i] hp.1 hp.2 Ω
   have g1:i + 1 < ls.length:=by omega
   have g2:i < ms.length:=by omega
   have a1:atI (ls.map A.int) ((i:Int) + 1)=some (.int ls[i + 1]):=by
    rw [show (i:Int) + 1=((i + 1:Nat):Int) by omega,zde];simp [List.getElem?_eq_getElem g1]
   have a2:atI (ms.map A.int) (i:Int)=some (.int ms[i]):=by rw [zde];simp [List.getElem?_eq_getElem g2]
   have s5:=hs5 [.lst ys]
   have s6:=hs6 [.lst ys]
   refine ⟨[some (.int (i:Int)),some (.int qs[i]),some (.lst (zad (pkd R))),some (.cel Ω.length),some (.cel (Ω.length + 2))],⟨_,_,rfl⟩,by simp, .inl ⟨_,rfl,by simp [yesM],?_⟩⟩
   simp only [List.append_assoc,List.cons_append,List.nil_append]
   simp [noX,zaq,ma,s5,s6,a1,a2,h2,encE,List.getD_eq_getElem?_getD,List.getElem?_eq_getElem g1,List.getElem?_eq_getElem g2])
  (by
   show ClL _ (List.filterMap _ (zaA 0 (qs.map A.int)))
   rw [em]
   refine zg5 fun a h=>?_
   obtain ⟨y,_,rfl⟩:=List.mem_map.mp h
   simp [encE,Cl,ClL])
 have e:(enumSrc (.lst (qs.map A.int)) (qs.map A.int)).ds.filterMap (entA (atF 0 (pkd R)) ls ms)=encL (ent3 (atF 0 (pkd R)) qs (ls.drop 1) ms):=em
 rw [e] at key
 exact key
end M
namespace M
open PySem L2 V2
theorem zvi {N:Int}:∀ (ps:List Int) (z:Int),Up N z ps→∀ p ∈ z :: ps,z ≤ p∧p ≤ N
 | [],z,h,p,hp=>by have e:z=N:=h;have e2:p=z:=(by simpa using hp);omega
 | q :: ps,z,h,p,hp=>by
  have h1:=h.1
  rcases List.mem_cons.mp hp with e | hp
  ·have:=h.2.le;omega
  ·have:=zvi ps q h.2 p hp;omega
theorem zoY (R:List Rn) (ps:List Int) (c:Int) (hR:R.length ≤ 63) (hu:Up (whole R) 1 ps) (hl:ps.length ≤ 30) (hc:0 ≤ c) (hc1:c < 8589934592) (Ω:Sto) :
  zdB [.lst (zad R), .lst ((1 :: ps).map A.int), .int c] Ω
   = some (.ok (.lst (encL (ent3 (atF 0 (pkd R)) (1 :: ps) (leaF (whole R) (fW c) 0 0 (1 :: ps)) (mosF (whole R) (gW c) (1 :: ps))))),Ω):=by
 have ms:=fun Ω=>zrt R hR Ω
 have hw:=znh R
 have hin:=zvi ps 1 hu
 obtain ⟨zs,hzs⟩:=zqh ps 1 hu
 generalize hN:whole R=N at *
 generalize hqs:(1 :: ps:List Int)=qs at *
 have hql:qs.length ≤ 31:=by rw [← hqs];simp;omega
 have hlast:atI (qs.map A.int) (-1)=some (.int N):=by rw [hzs];exact zmY zs N
 have h1s:(1:Nat) ≤ sizeLine:=by decide
 obtain ⟨y7,y8,y9,q1⟩:=zqT (fun Ω'=>zaG Ω' (.lst (qs.map A.int))=some (qs.map A.int)) (fun _=>rfl) (some (.lst (zad R))) (some (.lst (qs.map A.int))) (some (.lst (zad (pkd R)))) none c N (.lst [.int (N + 1)]) Ω hc hc1 qs 0 0 [] none none none (by omega) (by simp;omega)
 obtain ⟨z7,z8,z10,q2⟩:=zqI (fun Ω'=>zaG Ω' (.lst (qs.map A.int))=some (qs.map A.int)) (fun _=>rfl) (some (.lst (zad R))) (some (.lst (qs.map A.int))) (some (.lst (zad (pkd R)))) y9 c N (.lst (([] ++ [0] ++ leaF N (fW c) 0 0 qs).map A.int)) Ω hc hc1 qs.reverse 0 (N + 1) [] y7 y8 none (by simp;omega) (by simp;omega)
 rw [zni] at q2
 have len1:=zoQ N (fW c) qs 0 0
 have len2:=zp6 N (gW c) qs
 generalize hA:leaF N (fW c) 0 0 qs=la at *
 generalize hB:mosF N (gW c) qs=mo at *
 have tu:=zrp [some (.lst (zad R)),some (.lst (qs.map A.int)),some (.int c),some (.lst (zad (pkd R))),some (.int N),some (.cel Ω.length),some (.cel (Ω.length + 1)),z7,z8,y9,z10] (.lst ((0 :: la).map A.int)) ((N + 1) :: mo.reverse) Ω rfl (by simp;omega)
 have en:=zu2 [some (.lst (zad R)),some (.lst (qs.map A.int)),some (.int c),some (.lst (zad (pkd R))),some (.int N),some (.cel Ω.length),some (.cel (Ω.length + 2)),z7,z8,y9,z10] R qs (0 :: la) (mo ++ [N + 1]) Ω (.lst (((N + 1) :: mo.reverse).map A.int)) (.lst [])
  rfl rfl rfl rfl (fun p hp=>by have:=hin p hp;omega) (by omega) (by simp;omega) (by simp;omega)
 have e3:∀ (v:Int→Int) (as bs cs:List Int) (t:Int),as.length ≤ cs.length→ent3 v as bs (cs ++ [t])=ent3 v as bs cs:=by
  intro v as
  induction as with
  | nil=>intro bs cs t _;cases bs <;> simp [ent3]
  | cons a as ih =>
   intro bs cs t h
   cases cs with
   | nil=>simp at h
   | cons c cs=>cases bs with
    | nil=>simp [ent3]
    | cons b bs=>simp only [List.cons_append,ent3];rw [ih bs cs t (by simpa using h)]
 have d1:(0 :: la).drop 1=la:=rfl
 rw [d1,e3 _ _ _ _ _ (by omega)] at en
 have er:((N + 1) :: mo.reverse).reverse=mo ++ [N + 1]:=by simp
 rw [er] at tu
 show trim Ω (outR (zdE [some (.lst (zad R)),some (.lst (qs.map A.int)),some (.int c),none,none,none,none,none,none,none,none] Ω))=_
 have e:zdE [some (.lst (zad R)),some (.lst (qs.map A.int)),some (.int c),none,none,none,none,none,none,none,none] Ω
   = some (.ret (.lst (encL (ent3 (atF 0 (pkd R)) qs la mo))),[some (.lst (zad R)),some (.lst (qs.map A.int)),some (.int c),some (.lst (zad (pkd R))),some (.int N),some (.cel Ω.length),some (.cel (Ω.length + 2)),z7,z8,y9,z10],
    Ω ++ [.lst ((0 :: la).map A.int), .lst (((N + 1) :: mo.reverse).map A.int), .lst ((mo ++ [N + 1]).map A.int)]):=by
  unfold zdE
  rw [zas (ρ1:=[some (.lst (zad R)),some (.lst (qs.map A.int)),some (.int c),some (.lst (zad (pkd R))),none,none,none,none,none,none,none]) (Ω':=Ω) (by simp [zaq,ms])]
  rw [zas (ρ1:=[some (.lst (zad R)),some (.lst (qs.map A.int)),some (.int c),some (.lst (zad (pkd R))),some (.int N),none,none,none,none,none,none]) (Ω':=Ω) (by simp [hlast])]
  rw [zas (ρ1:=[some (.lst (zad R)),some (.lst (qs.map A.int)),some (.int c),some (.lst (zad (pkd R))),some (.int N),some (.cel Ω.length),none,none,none,none,none]) (Ω':=Ω ++ [.lst [.int 0]]) (by simp [h1s])]
  rw [zas (ρ1:=[some (.lst (zad R)),some (.lst (qs.map A.int)),some (.int c),some (.lst (zad (pkd R))),some (.int N),some (.cel Ω.length),some (.cel (Ω.length + 1)),none,none,none,none]) (Ω':=Ω ++ [.lst [.int 0], .lst [.int (N + 1)]]) (by simp [h1s])]
  rw [zas (ρ1:=[some (.lst (zad R)),some (.lst (qs.map A.int)),some (.int c),some (.lst (zad (pkd R))),some (.int N),some (.cel Ω.length),some (.cel (Ω.length + 1)),y7,y8,y9,none]) (Ω':=Ω ++ [.lst ((0 :: la).map A.int), .lst [.int (N + 1)]]) (by
   rw [forO (S:=enumSrc (.lst (qs.map A.int)) (qs.map A.int)) (Ω':=Ω ++ [.lst [.int 0], .lst [.int (N + 1)]]) (by simp)]
   exact q1)]
  rw [zas (ρ1:=[some (.lst (zad R)),some (.lst (qs.map A.int)),some (.int c),some (.lst (zad (pkd R))),some (.int N),some (.cel Ω.length),some (.cel (Ω.length + 1)),z7,z8,y9,z10]) (Ω':=Ω ++ [.lst ((0 :: la).map A.int), .lst (((N + 1) :: mo.reverse).map A.int)]) (by
   rw [forO (S:=zeI (.lst (qs.map A.int)) (qs.map A.int)) (Ω':=Ω ++ [.lst ((0 :: la).map A.int), .lst [.int (N + 1)]]) (by simp)]
   have er2:(zeI (.lst (qs.map A.int)) (qs.map A.int)).ds=zaA 0 (qs.reverse.map A.int):=by simp [zeI,List.map_reverse]
   rw [er2]
   exact q2)]
  rw [zas (ρ1:=[some (.lst (zad R)),some (.lst (qs.map A.int)),some (.int c),some (.lst (zad (pkd R))),some (.int N),some (.cel Ω.length),some (.cel (Ω.length + 2)),z7,z8,y9,z10]) (Ω':=Ω ++ [.lst ((0 :: la).map A.int), .lst (((N + 1) :: mo.reverse).map A.int), .lst ((mo ++ [N + 1]).map A.int)]) (by
   simp only [sAsg,zsC tu];rfl)]
  simp only [sRet,zsC en]
 rw [e]
 have hcl:ClL Ω.length (encL (ent3 (atF 0 (pkd R)) qs la mo)):=zg5 fun a h=>by
  obtain ⟨y,_,rfl⟩:=List.mem_map.mp h
  simp [encE,Cl,ClL]
 simp [trim,Cl]
 first | exact if_pos ⟨by simp,hcl⟩ | (rw [if_pos];exact ⟨by simp,hcl⟩) | (intro h;exact absurd hcl h)
end M
namespace M
open PySem L2 V2
def zi7 (c:Int):Int:=if c % 6=3 then 1 + c / 6 % 3 else if c % 6=4 then 1 + c / 6 % 9 else if c % 6=5 then 1 + c / 6 % 1000000 else 1
theorem zpO (c:Int):1 ≤ zi7 c∧zi7 c ≤ 1000000:=by unfold zi7;split <;> (try split) <;> (try split) <;> omega
theorem zqV (c:Int) (Ω:Sto) (hc:0 ≤ c):zca [.int c] Ω=some (.ok (.int (zi7 c)),Ω):=by
 have h1:∀ j,CDiv j 6:=fun j=>⟨by decide,by decide⟩
 have hs:(6:Nat) ≤ sizeLine:=by decide
 have a4:∀ (a b c d e f:A),atI [a,b,c,d,e,f] 4=some e:=fun a b c d e f=>rfl
 have a5:∀ (a b c d e f:A),atI [a,b,c,d,e,f] 5=some f:=fun a b c d e f=>rfl
 have hm:c % 6=0∨c % 6=1∨c % 6=2∨c % 6=3∨c % 6=4∨c % 6=5:=by omega
 rcases hm with e | e | e | e | e | e <;> simp [zca,zfq,e,zi7,h1,hs,a4,a5]
end M
namespace M
open PySem L2 V2
end M
namespace M
open PySem L2 V2
def zpC (c:Int):Int:=if c % 4=2 then 1 else if c % 4=3 then c / 4 % 50 else 0
theorem zoa (R:List Rn) (hl:R.length ≤ 1000) (x1 x2 x3:Option A) (Ω:Sto):zfD [some (.lst (zad R)),x1,x2,x3] Ω=some (.ok (.lst (R.map fun r=>A.int r.2)),Ω):=by
 have eF:(zad R).filterMap (fun a=>match a with | .tup [_,x]=>some x | _=>none)=R.map fun r=>A.int r.2:=by
  simp only [zad,List.filterMap_map]
  rw [← List.filterMap_eq_map]
  rfl
 rw [← eF]
 refine zf9 (S:=srcOf (.lst (zad R)) (zad R)) _ (fun ρ=>∃ u v,ρ=[u,v]) (by simp) (fun _=>rfl) ⟨none,none,rfl⟩ (by simp [zad];omega) ?_ (by
  show ClL _ (List.filterMap _ (zad R));rw [eF];exact zg5 fun a h=>by obtain ⟨r,_,rfl⟩:=List.mem_map.mp h;simp only [Cl])
 rintro x hx ρ ⟨u,v,rfl⟩ ys
 obtain ⟨r,_,rfl⟩:=List.mem_map.mp hx
 exact ⟨[some (.int r.1),some (.int r.2)],⟨_,_,rfl⟩,by simp [encT], .inl ⟨_,rfl,rfl,by simp⟩⟩
theorem zlu (rs:List Rn):intsOf (rs.map fun r=>A.int r.2)=some (rs.map (·.2)):=by
 have:=zeJ (rs.map (·.2))
 rw [List.map_map] at this
 exact this
theorem znl (v:Int→Int):∀ (ps as bs:List Int),(ent3 v ps as bs).length ≤ ps.length
 | [],_,_=>by simp [ent3]
 | _ :: _,[],_=>by simp [ent3]
 | _ :: _,_ :: _,[]=>by simp [ent3]
 | p :: ps,a :: as,b :: bs=>by have:=znl v ps as bs;simp only [ent3,List.length_cons];omega
theorem zo8 (R:List Rn) (c:Int) (hR:R.length ≤ 63) (hT:Tn R) (hc:0 ≤ c) (hc1:c < 8589934592) (Ω:Sto) :
  ∃ p,Gd R p∧p.es.length ≤ 31∧zer [.lst (zad R), .int c] Ω=some (.ok (encQ p),Ω):=by
 have q1:=fun x1 x2 x3=>zoa R (by omega) x1 x2 x3 Ω
 have i1:=zlu R
 have hw:(R.map (·.2)).sum=whole R:=rfl
 have h4:(4:Nat) ≤ sizeLine:=by decide
 generalize (R.map fun r=>A.int r.2)=ws at q1 i1
 have hw0:0 ≤ whole R:=Int.le_trans (by have:=zpo hT 0;have:=zmD hT 0;omega) (zi3 hT 0)
 by_cases hz:whole R=0
 ·have d3:CDiv c 3:=⟨by decide,by decide⟩
  refine ⟨⟨0,c % 3,c / 3 % 3,[]⟩,⟨hT,⟨Int.le_refl _,by show 0 ≤ c % 3;omega,by show 0 ≤ c / 3 % 3;omega,fun e r he=>(by cases he),rfl,rfl⟩,hz.symm,trivial⟩,by simp,?_⟩
  show trim Ω (outR (zdK [some (.lst (zad R)),some (.int c),none,none] Ω))=_
  unfold zdK
  rw [zas (ρ1:=[some (.lst (zad R)),some (.int c),some (.int (whole R)),none]) (Ω':=Ω) (by simp [q1,i1,hw])]
  simp [hz,d3,h4,encQ,encP,encL]
 ·have m1:=fun Ω=>zi6 c 1 Ω hc hc1 (by decide) (by decide)
  obtain ⟨ps,hu,hl,pe⟩:=zrA (mixI c 1) (whole R) (mix0 _ _) (by have:=mix1 c 1;omega) (by omega) Ω
  have en:=zoY R ps c hR hu hl hc hc1 Ω
  have hp:=znh R
  have sl:=fun es=>zpB es Ω
  have d4:CDiv c 4:=⟨by decide,by decide⟩
  have d2:CDiv c 200:=⟨by decide,by decide⟩
  have hx:0 ≤ zpC c:=by unfold zpC;split <;> (try split) <;> omega
  have hix:atI [A.int 0, .int 0, .int 1, .int (c / 4 % 50)] (c % 4)=some (.int (zpC c)):=by
   have a3:∀ (a b c d:A),atI [a,b,c,d] 3=some d:=fun a b c d=>rfl
   have hm:c % 4=0∨c % 4=1∨c % 4=2∨c % 4=3:=by omega
   rcases hm with e | e | e | e <;> simp [e,zpC,a3]
  have g:=zvb (N:=whole R) (x:=zpC c) (d:=c / 200 % 5) (v:=atF 0 (pkd R)) (f:=fW c) (g:=gW c) (R:=R) hT rfl (fun k=>zpE _) (fun k=>zpE _) (by omega) hx (by omega)
   (fun p h1 h2=>zs1 h1 (by omega)) (fun p q h1 h2 h3=>zoV h2 (pkd R) 0 (znt R) (by omega) (by omega)) ps hu
  have hel:=znl (atF 0 (pkd R)) (1 :: ps) (leaF (whole R) (fW c) 0 0 (1 :: ps)) (mosF (whole R) (gW c) (1 :: ps))
  rw [List.map_cons] at pe en
  generalize ent3 (atF 0 (pkd R)) (1 :: ps) (leaF (whole R) (fW c) 0 0 (1 :: ps)) (mosF (whole R) (gW c) (1 :: ps))=es at en g hel
  refine ⟨_,g,by simp only [List.length_cons] at hel;show es.length ≤ 31;omega,?_⟩
  show trim Ω (outR (zdK [some (.lst (zad R)),some (.int c),none,none] Ω))=_
  unfold zdK
  rw [zas (ρ1:=[some (.lst (zad R)),some (.int c),some (.int (whole R)),none]) (Ω':=Ω) (by simp [q1,i1,hw])]
  rw [zas (ρ1:=[some (.lst (zad R)),some (.int c),some (.int (whole R)),none]) (Ω':=Ω) (by simp [hz])]
  rw [zas (ρ1:=[some (.lst (zad R)),some (.int c),some (.int (whole R)),some (.lst (encL es))]) (Ω':=Ω) (by simp [zaq,m1,pe,en])]
  simp [zaq,sl,h4,hix,d4,d2,encQ,encP]
end M
namespace M
open PySem L2 V2
end M
namespace M
open PySem L2 V2
def wayJ (ns:List Int):Int:=mixI (zeT ns 0) 3 % 5
def zjn (m:Nat) (ns:List Int):Nat:=(min (ns.length:Int) (3 + (m:Int)) - 3).toNat
theorem zwH {f:Ev→Mo (List A)} {ρ:Ev} {Ω Ω':Sto} {i j:Int} (h:f ρ Ω=some (.ok [.int i, .int j],Ω')) (hs:zb6 i∧zb6 j):zqK f ρ Ω=some (.ok (zeN i (j - i).toNat),Ω'):=by
 unfold zqK
 rw [zuK h]
 show mb (chk (zb6 i∧zb6 j)) _ Ω'=_
 rw [zr6 _ hs]
 rfl
theorem Pl.same {R S:List Rn} (h1:∀ x,und R x=und S x) (h2:∀ x,upt R x=upt S x):∀ {es:List E} {z:Int},Pl R z es→Pl S z es
 | [],_,_=>trivial
 | e :: _,_,⟨p,a,b,c,d,f,g⟩=>⟨p,a,by rw [← h1];exact b,by rw [← h2];exact c,d,f,g.same h1 h2⟩
end M
namespace M
open PySem L2 V2
theorem znO:∀ (R:List Rn),(∀ r ∈ R,1 ≤ r.2∧r.2 ≤ 1000000)→whole R ≤ 1000000 * (R.length:Int)
 | [],_=>by simp [whole]
 | r :: R,h=>by
  have e:whole (r :: R)=r.2 + whole R:=by simp [whole]
  have:=znO R fun q hq=>h q (List.mem_cons_of_mem _ hq)
  have:=h r (List.mem_cons_self ..)
  rw [e,List.length_cons]
  omega
end M
namespace M
open PySem L2 V2
def zft (c w:Int):Int :=
 if w=0 then c % 7 else if w=1 then c % 40 - 20 else if w=2 then 500000007 * (c % 5) - 3 else if w=3 then (c % 1999 - 999) * 10 ^ 15 + c / 1999 % 3
 else if c % 5=0 then 0 - 10 ^ 59 - 1 else if c % 5=1 then 0 - 10 ^ 59 else if c % 5=2 then 10 ^ 60 - 8 else if c % 5=3 then 10 ^ 60 - 9 else 0
theorem zpN (c w:Int) (Ω:Sto) (hc:0 ≤ c) (hc1:c < 8589934592):zaV [.int c, .int w] Ω=some (.ok (.int (zft c w)),Ω):=by
 have m1:CMul 500000007 (c % 5):=zjB (by decide) (by decide)
 have m2:CMul (c % 1999 - 999) (10 ^ 15):=zjB (by omega) (by omega)
 have d1:∀ j,CDiv j 1999:=fun j=>⟨by decide,by decide⟩
 have p1:CPow 10 15:=⟨by decide,by decide,by decide⟩
 have p2:CPow 10 59:=⟨by decide,by decide,by decide⟩
 have p3:CPow 10 60:=⟨by decide,by decide,by decide⟩
 have hs:(5:Nat) ≤ sizeLine:=by decide
 have a4:∀ (a b c d e:A),atI [a,b,c,d,e] 4=some e:=fun a b c d e=>rfl
 have hm:c % 5=0∨c % 5=1∨c % 5=2∨c % 5=3∨c % 5=4:=by omega
 by_cases w0:w=0
 ·simp [zaV,zbu,w0,zft]
 by_cases w1:w=1
 ·simp [zaV,zbu,w1,zft]
 by_cases w2:w=2
 ·simp [zaV,zbu,w2,zft,m1]
 by_cases w3:w=3
 ·simp only [Int.reducePow] at m2
  simp [zaV,zbu,w3,zft,m2,d1,p1]
 rcases hm with e | e | e | e | e <;> simp [zaV,zbu,w0,w1,w2,w3,zft,p2,p3,hs,e,a4]
def runK (ns:List Int) (k:Nat):Rn :=
 (zft (mixI (mixI (zeT ns (3 + (k:Int))) (3 + (k:Int))) 1) (wayJ ns),zi7 (mixI (mixI (zeT ns (3 + (k:Int))) (3 + (k:Int))) 2))
def rowK (m:Nat) (ns:List Int):List Rn:=(List.range (zjn m ns)).map (runK ns)
theorem zqG (m:Nat) (ns:List Int):(rowK m ns).length ≤ m:=by simp [rowK,zjn];omega
theorem zsY (m:Nat) (ns:List Int):∀ r ∈ rowK m ns,1 ≤ r.2∧r.2 ≤ 1000000:=by
 intro r hr
 obtain ⟨k,_,rfl⟩:=List.mem_map.mp hr
 exact zpO _
theorem zoJ (m:Nat) (ns:List Int) (hns:ns.length ≤ 63) (k:Nat) (hk:k < 60) (x:Option A) (ds:List A) (hd:ds.length < 60) (Ω:Sto) :
  zcu [some (.scr ns),some (.int 3),some (.int m),some (.int (wayJ ns)),some (.cel Ω.length),some (.int (3 + (k:Int))),x] (Ω ++ [.lst ds])
   = some (.nx,[some (.scr ns),some (.int 3),some (.int m),some (.int (wayJ ns)),some (.cel Ω.length),some (.int (3 + (k:Int))),some (.int (mixI (zeT ns (3 + (k:Int))) (3 + (k:Int))))],Ω ++ [.lst (ds ++ [encT (runK ns k)])]):=by
 have c1:=fun Ω=>zng ns (3 + (k:Int)) Ω (by omega) (by omega)
 have m1:=fun Ω=>zi6 (zeT ns (3 + (k:Int))) (3 + (k:Int)) Ω (zrI _ _) (by have:=zrG ns (3 + (k:Int));omega) (by omega) (by omega)
 have er0:encT (runK ns k) = .tup [.int (zft (mixI (mixI (zeT ns (3 + (k:Int))) (3 + (k:Int))) 1) (wayJ ns)), .int (zi7 (mixI (mixI (zeT ns (3 + (k:Int))) (3 + (k:Int))) 2))]:=rfl
 rw [er0]
 have b0:0 ≤ mixI (zeT ns (3 + (k:Int))) (3 + (k:Int)):=mix0 _ _
 have b1:mixI (zeT ns (3 + (k:Int))) (3 + (k:Int)) < 8589934592:=by have:=mix1 (zeT ns (3 + (k:Int))) (3 + (k:Int));omega
 generalize mixI (zeT ns (3 + (k:Int))) (3 + (k:Int))=c at m1 b0 b1
 have m2:=fun Ω=>zi6 c 1 Ω b0 b1 (by decide) (by decide)
 have m3:=fun Ω=>zi6 c 2 Ω b0 b1 (by decide) (by decide)
 have n1:=fun Ω=>zpN (mixI c 1) (wayJ ns) Ω (mix0 _ _) (by have:=mix1 c 1;omega)
 have t1:=fun Ω=>zqV (mixI c 2) Ω (mix0 _ _)
 have h2:(2:Nat) ≤ sizeLine:=by decide
 have hi:isL (Ω ++ [.lst ds]) (.cel Ω.length):=zul (zov (ds:=ds) (by simp))
 have hcl:zju (Ω ++ [.lst ds]) (.cel Ω.length)=some (Ω.length,ds):=zl2 (by simp)
 have hz:ds.length < sizeLine:=by rw [sizeLine_eq];omega
 unfold zcu
 rw [zas (ρ1:=[some (.scr ns),some (.int 3),some (.int m),some (.int (wayJ ns)),some (.cel Ω.length),some (.int (3 + (k:Int))),some (.int c)]) (Ω':=Ω ++ [.lst ds]) (by simp [zaq,c1,m1])]
 simp [zaq,m2,m3,n1,t1,hi,hcl,hz,h2]
theorem zu3 (m:Nat) (hm:m ≤ 50) (ns:List Int) (hns:ns.length ≤ 63) (Ω:Sto):zc7 [.scr ns, .int 3, .int m] Ω=some (.ok (.lst (zad (rowK m ns))),Ω):=by
 have c1:=fun Ω=>zng ns 0 Ω (by decide) (by decide)
 have m1:=fun Ω=>zi6 (zeT ns 0) 3 Ω (zrI _ _) (by have:=zrG ns 0;omega) (by decide) (by decide)
 have hM:zjn m ns ≤ m:=by unfold zjn;omega
 let base:Ev:=[some (.scr ns),some (.int 3),some (.int m),some (.int (wayJ ns)),some (.cel Ω.length)]
 obtain ⟨ρ',Ω1,q,x,y,rfl,rfl⟩:=zic (ok:=fun _=>True) (g:=gN 5) (b:=zcu) (fun i ρ Ω'=>∃ x y,ρ=base ++ [x,y]∧Ω'=Ω ++ [.lst (zad (((List.range (zjn m ns)).take i).map (runK ns)))]) (fun _ _ _ _=>trivial)
  ((List.range (zjn m ns)).map fun (i:Nat)=>A.int (3 + (i:Int))) 0 (base ++ [none,none]) (Ω ++ [.lst []]) ⟨none,none,rfl,by simp [zad]⟩
  (by
   rintro i x ρ Ω' hx ⟨u,v,rfl,rfl⟩
   have hi:i < zjn m ns:=by simpa using (List.getElem?_eq_some_iff.mp hx).1
   have ex:x = .int (3 + (i:Int)):=by
    rw [List.getElem?_map,List.getElem?_range hi] at hx
    simpa using hx.symm
   subst ex
   simp only [Nat.zero_add]
   have q:=zoJ m ns hns i (by omega) v (zad (((List.range (zjn m ns)).take i).map (runK ns))) (by simp [zad];omega) Ω
   refine ⟨base ++ [some (.int (3 + (i:Int))),v],_,_,_,by simp [base], .inl q,some (.int (3 + (i:Int))),_,rfl,?_⟩
   rw [List.take_add_one,List.getElem?_range hi]
   simp [zad])
 have ed:((List.range (zjn m ns)).take (0 + ((List.range (zjn m ns)).map fun (i:Nat)=>A.int (3 + (i:Int))).length)).map (runK ns)=rowK m ns:=by
  simp [rowK,List.take_of_length_le]
 rw [ed] at q
 show trim Ω (outR (zdZ [some (.scr ns),some (.int 3),some (.int m),none,none,none,none] Ω))=_
 have e:zdZ [some (.scr ns),some (.int 3),some (.int m),none,none,none,none] Ω=some (.ret (.lst (zad (rowK m ns))),base ++ [x,y],Ω ++ [.dead]):=by
  unfold zdZ
  rw [zas (ρ1:=[some (.scr ns),some (.int 3),some (.int m),some (.int (wayJ ns)),none,none,none]) (Ω':=Ω) (by simp [zaq,c1,m1,wayJ])]
  rw [zas (ρ1:=base ++ [none,none]) (Ω':=Ω ++ [.lst []]) (by simp [base])]
  rw [zas (ρ1:=base ++ [x,y]) (Ω':=Ω ++ [.lst (zad (rowK m ns))]) (by
   rw [forO (zwH (i:=3) (j:=min (ns.length:Int) (3 + (m:Int))) (Ω':=Ω ++ [.lst []]) (by simp [base]) (by unfold zb6;omega))]
   exact q)]
  simp [base,zaG]
 rw [e]
 simp only [outR]
 exact zjU (by simp only [Cl];exact znk _ _)
theorem zk3 (D:Due):pur 8 (zgB D)=true:=by
 have h1:PyData.canLay0 (.str "row")=true:=by decide +kernel
 have h2:PyData.canLay0 (.str "pouch")=true:=by decide +kernel
 have h3:PyData.canLay0 (.str "size")=true:=by decide +kernel
 have h4:PyData.canLay0 (.str "wrong")=true:=by decide +kernel
 have h5:PyData.canLay0 (.str "good")=true:=by decide +kernel
 cases D <;> simp [zgB,pur,h1,h2,h3,h4,h5]
theorem zsw {R:List Rn} {p:Po} (h:Gd R p) (h1:∀ r ∈ R,1 ≤ r.2) (hw:whole R ≤ 1000000000):dueW R p = .good:=by
 have hb:∀ (R:List Rn) (acc:Int) (k:Nat),(∀ r ∈ R,1 ≤ r.2)→acc + whole R ≤ 1000000000→bad R acc k=none:=by
  intro R
  induction R with
  | nil=>intro acc k _ _;rfl
  | cons r R ih =>
   intro acc k h hw
   have e:whole (r :: R)=r.2 + whole R:=by simp [whole]
   have a:=h r (List.mem_cons_self ..)
   have hT:Tn R:=fun q hq=>by have:=h q (List.mem_cons_of_mem _ hq);omega
   have hn:0 ≤ whole R:=Int.le_trans (by have:=zpo hT 0;have:=zmD hT 0;omega) (zi3 hT 0)
   have c:¬ (r.2 < 1∨1000000000 < acc + r.2):=by omega
   simp only [bad,if_neg c]
   exact ih _ _ (fun q hq=>h q (List.mem_cons_of_mem _ hq)) (by omega)
 have hwr:∀ (es:List E) (k:Nat) (z:Int),Pl R z es→wrF R k z es=none:=by
  intro es
  induction es with
  | nil=>intro k z _;rfl
  | cons e es ih =>
   rintro k z ⟨p,a1,a2,a3,a4,a5,a6⟩
   have c:¬ min e.2.2 (upt R e.1) < max (z + 1) (max e.2.1 (und R e.1 + 1)):=by omega
   simp only [wrF,if_neg c]
   exact ih _ _ (a6.low (by omega))
 unfold dueW
 rw [hb R 0 0 h1 (by omega)]
 simp only []
 rw [zuN h.gf]
 simp only []
 rw [if_pos h.sz,hwr _ _ _ h.pl]
theorem ztz (ns:List Int) (hns:ns.length ≤ 63):∃ W,zlh [.scr ns] []=some (.ok (.bl true),W):=by
 have c1:=fun Ω=>zng ns 1 Ω (by decide) (by decide)
 have c2:=fun Ω=>zng ns 2 Ω (by decide) (by decide)
 have ro:zc7 [.scr ns, .int 3, .int 30] []=_:=zu3 30 (by decide) ns hns []
 have hin:=zsY 30 ns
 have hln:=zqG 30 ns
 generalize rowK 30 ns=R at ro hin hln
 have b0:=zrI ns 1
 have b1:=zrG ns 1
 have d0:=zrI ns 2
 have d1:=zrG ns 2
 generalize zeT ns 1=x at c1 b0 b1
 generalize zeT ns 2=y at c2 d0 d1
 obtain ⟨p,gp,lp,pp⟩:=zo8 R x (by omega) (fun r hr=>by have:=hin r hr;omega) b0 (by omega) []
 have w1:=znO R hin
 have good:=zsw gp (fun r hr=>(hin r hr).1) (by omega)
 have as1:=zlC R p (by omega) (by omega) []
 rw [good] at as1
 have h2:(2:Nat) ≤ sizeLine:=by decide
 obtain ⟨m,hm⟩:=Int.eq_ofNat_of_zero_le (show 0 ≤ 1 + y % 3 by omega)
 have hm3:m ≤ 3:=by omega
 let base:Ev:=[some (.scr ns),some (.lst (zad R)),some (encQ p)]
 obtain ⟨ρ1,Ω1,q,R',p',x5,x6,l1,l2,rfl,rfl⟩:=zic (ok:=fun _=>True) (g:=gN 5) (b:=zeo)
  (fun i ρ Ω'=>∃ (R':List Rn) (p':Po) (x5 x6:Option A),R'.length ≤ 30 + i∧p'.es.length ≤ 31 + i∧ρ=base ++ [some (.lst (zad R')),some (encQ p'),x5,x6,none,none]∧Ω'=[]) (fun _ _ _ _=>trivial)
  ((List.range m).map fun (i:Nat)=>A.int (0 + (i:Int))) 0 (base ++ [some (.lst (zad R)),some (encQ p),none,none,none,none]) [] ⟨R,p,none,none,by omega,by omega,rfl,rfl⟩
  (by
   rintro i a ρ Ω' ha ⟨R',p',x5,x6,l1,l2,rfl,rfl⟩
   have hi:i < m:=by simpa using (List.getElem?_eq_some_iff.mp ha).1
   have ex:a = .int (i:Int):=by
    rw [List.getElem?_map,List.getElem?_range hi] at ha
    simpa using ha.symm
   subst ex
   simp only [Nat.zero_add] at l1 l2 ⊢
   have m1:=fun Ω=>zi6 y (20 + (i:Int)) Ω d0 (by omega) (by omega) (by omega)
   have m0:=mix0 y (20 + (i:Int))
   generalize mixI y (20 + (i:Int))=c at m1 m0
   have d5:CDiv c 5:=⟨by decide,by decide⟩
   by_cases hc:c % 5=0
   ·obtain ⟨R2,k1,k2⟩:=zj4 R' (c / 5) (by omega) (by omega) []
    refine ⟨base ++ [some (.lst (zad R')),some (encQ p'),some (.int i),x6,none,none],[],_,_,by simp [base], .inl ?_,R2,p',some (.int i),some (.int c),by omega,by omega,rfl,rfl⟩
    simp [zeo,base,zaq,c2,m1,hc,d5,k2]
   ·obtain ⟨p2,k1,k2⟩:=zjd p' (c / 5) (by omega) (by omega) []
    refine ⟨base ++ [some (.lst (zad R')),some (encQ p'),some (.int i),x6,none,none],[],_,_,by simp [base], .inl ?_,R',p2,some (.int i),some (.int c),by omega,by omega,rfl,rfl⟩
    simp [zeo,base,zaq,c2,m1,hc,d5,k2])
 simp only [List.length_map,List.length_range,Nat.zero_add] at l1 l2
 have du:=zt7 R' p' (by omega) (by omega) []
 have as2:=zlC R' p' (by omega) (by omega) []
 have ne2:gNe (zgB (dueW R' p')) (zgB (dueW R' p')) []=some (.ok (.bl false),[]):=zif (zk3 _)
 have ne1:gNe (zgB .good) (.lst [.str "good", .int 0]) []=some (.ok (.bl false),[]):=zif (zk3 .good)
 generalize zgB (dueW R' p')=T at du as2 ne2
 obtain ⟨ρ2,Ω2,q2,x8,rfl,rfl⟩:=zic (ok:=fun _=>True) (g:=gN 8) (b:=zfJ)
  (fun i ρ Ω'=>∃ (x8:Option A),ρ=base ++ [some (.lst (zad R')),some (encQ p'),x5,x6,some T,x8]∧Ω'=[]) (fun _ _ _ _=>trivial)
  ((List.range 2).map fun (i:Nat)=>A.int (0 + (i:Int))) 0 (base ++ [some (.lst (zad R')),some (encQ p'),x5,x6,some T,none]) [] ⟨none,rfl,rfl⟩
  (by
   rintro i a ρ Ω' ha ⟨x8,rfl,rfl⟩
   refine ⟨base ++ [some (.lst (zad R')),some (encQ p'),x5,x6,some T,some a],[],_,_,by simp [base], .inl ?_,some a,rfl,rfl⟩
   simp [zfJ,base,zaq,as1,as2,ne1,ne2,h2])
 refine ⟨[],?_⟩
 show trim [] (outR (zja [some (.scr ns),none,none,none,none,none,none,none,none] []))=_
 unfold zja
 rw [zas (ρ1:=[some (.scr ns),some (.lst (zad R)),none,none,none,none,none,none,none]) (Ω':=[]) (by simp [zaq,ro])]
 rw [zas (ρ1:=[some (.scr ns),some (.lst (zad R)),some (encQ p),none,none,none,none,none,none]) (Ω':=[]) (by simp [zaq,c1,pp])]
 rw [zas (ρ1:=[some (.scr ns),some (.lst (zad R)),some (encQ p),some (.lst (zad R)),none,none,none,none,none]) (Ω':=[]) (by simp)]
 rw [zas (ρ1:=base ++ [some (.lst (zad R)),some (encQ p),none,none,none,none]) (Ω':=[]) (by simp [base])]
 rw [zas (ρ1:=base ++ [some (.lst (zad R')),some (encQ p'),x5,x6,none,none]) (Ω':=[]) (by
  rw [forO (S:=zeN 0 m) (Ω':=[]) (rngO (j:=(m:Int)) (by simp [base,zaq,c2,hm]) (by unfold zb6;omega))]
  exact q)]
 rw [zas (ρ1:=base ++ [some (.lst (zad R')),some (encQ p'),x5,x6,some T,none]) (Ω':=[]) (by simp [base,zaq,du])]
 rw [zas (ρ1:=base ++ [some (.lst (zad R')),some (encQ p'),x5,x6,some T,x8]) (Ω':=[]) (by
  rw [forO (S:=zeN 0 2) (Ω':=[]) (rngO (j:=2) (by simp [base]) (by unfold zb6;omega))]
  exact q2)]
 simp
end M
namespace K32
open PySem L2 V2 PyProof.Rows M
def top (i:Nat):Stmt:=PySem.Challenge.pw_rankpouch_k32_the_judge_refuses.main.body.getD i (.Pass ⟨0,0,0,0⟩)
abbrev zcI:Stmt:=top 11
abbrev zdv:Stmt:=top 12
abbrev zcL:Stmt:=top 13
abbrev zdy:Stmt:=top 14
abbrev zcN:Stmt:=top 15
abbrev zcj:Stmt:=top 16
abbrev zch:Stmt:=top 17
abbrev zd8:Stmt:=top 20
abbrev zeV:Stmt:=top 21
abbrev zdl:Stmt:=top 22
abbrev zhH:Stmt:=top 24
abbrev zcg:Stmt:=top 25
abbrev zd6:Stmt:=top 27
abbrev zdm:Stmt:=top 28
abbrev zci:Stmt:=top 29
abbrev zcM:Stmt:=top 30
abbrev zd7:Stmt:=top 31
abbrev zcD:Stmt:=top 32
abbrev zb4:Stmt:=top 33
abbrev zcc:Stmt:=top 34
abbrev zeK:Stmt:=top 35
abbrev zcm:Stmt:=top 36
abbrev zdx:Stmt:=top 37
abbrev zbk:Stmt:=top 38
abbrev zcU:Stmt:=top 39
abbrev zb8:Stmt:=top 40
abbrev zcO:Stmt:=top 41
abbrev zcl:Stmt:=top 42
abbrev zdj:Stmt:=top 43
abbrev zbX:Stmt:=top 44
abbrev zcT:Stmt:=top 45
abbrev zdd:Stmt:=top 46
abbrev zbb:Stmt:=top 47
abbrev za2:Stmt:=top 48
abbrev za3:Stmt:=top 49
abbrev zbW:Stmt:=top 50
abbrev zcJ:Stmt:=top 51
abbrev zj6:Stmt:=top 52
abbrev zd5:Stmt:=inClass (top 4) 0
theorem zop:znY zd5 "at" "RankError" "self" "at":=⟨⟨rfl,rfl,rfl,by decide +kernel,rfl,by decide +kernel,by decide +kernel⟩,rfl,rfl,rfl,by decide +kernel,⟨_,_,_,_,_,_,_,_,_,_,rfl,fun _=>rfl,fun _=>rfl,fun _=>⟨_,rfl⟩,fun _=>rfl,fun _=>rfl,fun Y hN hS=>znF (by rw [hN];rfl) (by rw [hS];exact .inl rfl)⟩⟩
abbrev zf5:Stmt:=inClass (top 2) 0
theorem zqJ:znY zf5 "at" "RankError" "self" "at":=⟨⟨rfl,rfl,rfl,by decide +kernel,rfl,by decide +kernel,by decide +kernel⟩,rfl,rfl,rfl,by decide +kernel,⟨_,_,_,_,_,_,_,_,_,_,rfl,fun _=>rfl,fun _=>rfl,fun _=>⟨_,rfl⟩,fun _=>rfl,fun _=>rfl,fun Y hN hS=>zq8 (by rw [hN];rfl) (by rw [hS];exact .inl rfl)⟩⟩
abbrev zf4:Stmt:=inClass (top 6) 0
theorem zrn:znY zf4 "at" "RankError" "self" "at":=⟨⟨rfl,rfl,rfl,by decide +kernel,rfl,by decide +kernel,by decide +kernel⟩,rfl,rfl,rfl,by decide +kernel,⟨_,_,_,_,_,_,_,_,_,_,rfl,fun _=>rfl,fun _=>rfl,fun _=>⟨_,rfl⟩,fun _=>rfl,fun _=>rfl,fun Y hN hS=>znF (by rw [hN];rfl) (by rw [hS];exact .inl rfl)⟩⟩
structure Blt (mg:Str→Option Value):Prop where
 ValueError:mg "ValueError" = none
 bool:mg "bool" = none
 enumerate:mg "enumerate" = none
 int:mg "int" = none
 isinstance:mg "isinstance" = none
 len:mg "len" = none
 list:mg "list" = none
 max:mg "max" = none
 min:mg "min" = none
 range:mg "range" = none
 reversed:mg "reversed" = none
 sorted:mg "sorted" = none
 sum:mg "sum" = none
section
variable {P:Program} {w:World} {K:PySem.W.Frag} {mg:Str→Option Value} {base:Heap}
theorem zdI:zaz ["pouch", "size", "slack", "depth", "entries"] ["pouch"] (zae zdv):=⟨rfl,rfl,rfl,by decide +kernel,rfl,by decide +kernel,by decide +kernel⟩
theorem zmC (B:Blt mg) (h:HasFn K mg "good_head" zdv):DefV P w K mg base "good_head" 1 ["pouch"] za5:=by
 refine DefV.of h zdI (fun _ _ _ _ _ _ us hl=>us1 us hl (fun _=>rfl)) (fun f cdv A outer s H E hr=>?_)
 exact (zaf (zav (i:=1) zdI.nd rfl (Or.inl rfl) (zaD (vv 0) zab (fun _ _=>rfl)))
  (zaf (zav (i:=2) zdI.nd rfl (Or.inl rfl) (zaD (vv 0) zab (fun _ _=>rfl)))
  (zaf (zav (i:=3) zdI.nd rfl (Or.inl rfl) (zaD (vv 0) zab (fun _ _=>rfl)))
  (zaf (zav (i:=4) zdI.nd rfl (Or.inl rfl) (zaD (vv 0) zab (fun _ _=>rfl)))
  (zaf (zba (VW.vt (zfe (zay o_lt (vv 1) zab (zao _)) (zfe (zay o_lt (vv 2) zab (zao _)) (zez (zay o_lt (vv 3) zab (zao _))))))
   (zai (zar zgk))
   zaw)
  (zai (zar (zcW (o_eq hr.units) (zcW (o_eq hr.units) (vv 1) zab (zao _)) (zcW (o_eq hr.units) (zaH zkw rfl B.len PySem.boot_len (zaa (vv 4) zag)) zab (zao _)) (zao _)))))))))
theorem zlZ:zaz ["entry", "place"] ["entry", "place"] (zae zdy):=⟨rfl,rfl,rfl,by decide +kernel,rfl,by decide +kernel,by decide +kernel⟩
theorem zmq (B:Blt mg) (h:HasFn K mg "stands_at" zdy):DefV P w K mg base "stands_at" 1 ["entry", "place"] zcz:=by
 refine DefV.of h zlZ (fun _ _ _ _ _ _ us hl=>us2 us hl (fun _ _=>rfl)) (fun f cdv A outer s H E hr=>?_)
 exact (zai (zar (zp9 (zcW (o_eq hr.units) (zaD (vv 0) zab (fun _ _=>rfl)) (vv 1) (zao _)) (zgs (zcW (o_eq hr.units) (zaD (vv 0) zab (fun _ _=>rfl)) (vv 1) (zao _))))))
theorem zff:zaz ["entry", "slack", "least", "most"] ["entry", "slack"] (zae zcN):=⟨rfl,rfl,rfl,by decide +kernel,rfl,by decide +kernel,by decide +kernel⟩
theorem zlM (B:Blt mg) (h:HasFn K mg "good_alone" zcN):DefV P w K mg base "good_alone" 1 ["entry", "slack"] zcV:=by
 refine DefV.of h zff (fun _ _ _ _ _ _ us hl=>us2 us hl (fun _ _=>rfl)) (fun f cdv A outer s H E hr=>?_)
 exact (zaf (zav (i:=2) zff.nd rfl (Or.inl rfl) (zaD (vv 0) zab (fun _ _=>rfl)))
  (zaf (zav (i:=3) zff.nd rfl (Or.inl rfl) (zaD (vv 0) zab (fun _ _=>rfl)))
  (zai (zar (zp9 (zcW o_le (vv 2) (vv 3) (zao _)) (zgs (zcW o_le (zaj zbR (vv 3) (vv 2)) (vv 1) (zao _))))))))
theorem zjm:zaz ["before", "entry", "slack"] ["before", "entry", "slack"] (zae zch):=⟨rfl,rfl,rfl,by decide +kernel,rfl,by decide +kernel,by decide +kernel⟩
theorem zkA (B:Blt mg) (h:HasFn K mg "near_enough" zch):DefV P w K mg base "near_enough" 1 ["before", "entry", "slack"] zcf:=by
 refine DefV.of h zjm (fun _ _ _ _ _ _ us hl=>us3 us hl (fun _ _ _=>rfl)) (fun f cdv A outer s H E hr=>?_)
 exact (zai (zar (zmv (zcW (o_eq hr.units) (zaD (vv 1) zab (fun _ _=>rfl)) (zaD (vv 0) zab (fun _ _=>rfl)) (zao _)) (zgs (zcW o_le (zaD (vv 1) zab (fun _ _=>rfl)) (zaj (zaT false) (zaj (zaT false) (zaD (vv 0) zab (fun _ _=>rfl)) (vv 2)) zab) (zao _))))))
theorem zg9:zaz ["row", "times_of", "number", "times"] ["row"] (zae zeV):=⟨rfl,rfl,rfl,by decide +kernel,rfl,by decide +kernel,by decide +kernel⟩
theorem zrq (B:Blt mg) (h:HasFn K mg "packed" zeV):DefV P w K mg base "packed" 1 ["row"] zim:=by
 refine DefV.of h zg9 (fun _ _ _ _ _ _ us hl=>us1 us hl (fun _=>rfl)) (fun f cdv A outer s H E hr=>?_)
 exact (zaf (zav (i:=1) zg9.nd rfl (Or.inr rfl) zmr)
  (zaf (zdL zah.passes rfl (zgW (vv 0)) (zbS rfl (zal (zam (i:=2) zg9.nd rfl (Or.inl rfl)) (zal (zam (i:=3) zg9.nd rfl (Or.inl rfl)) zbe)))
   (zai (zkp (Room.zg3 hr) (vv 1) (vv 2) (zaj (zaT false) (znQ (Room.zg3 hr) (vv 1) (vv 2) zab ⟨rfl,rfl,rfl,rfl⟩) (vv 3)))))
  (zai (zar (zmA false ["number"] [1] rfl (LcOk.of (zae zeV) ["row", "times_of", "number", "times"] rfl rfl (by decide +kernel)) (zgW (zaH (zqm rfl false) rfl B.sorted boot_sorted (zaa (vv 1) zag))) (fun cl C s H fp=>⟨(zam (i:=0) (show (["number", "times_of"] : List Str).Nodup by decide +kernel) rfl (Or.inl rfl)),ziA,(zaN (zaa (vv 0) (zaa (zpl (Room.zg3 hr) (vv 1) (vv 0) (fun _ _=>rfl)) zag)))⟩))))))
theorem zjc:zaz ["_law_cell_here", "_law_k", "_law_first"] ["_law_cell_here", "_law_k"] (zae zd6):=⟨rfl,rfl,rfl,by decide +kernel,rfl,by decide +kernel,by decide +kernel⟩
theorem zoA (B:Blt mg) (h:HasFn K mg "_law_mix" zd6):DefV P w K mg base "_law_mix" 1 ["_law_cell_here", "_law_k"] zaQ:=by
 refine DefV.of h zjc (fun _ _ _ _ _ _ us hl=>us2 us hl (fun _ _=>rfl)) (fun f cdv A outer s H E hr=>?_)
 exact (zaf (zav (i:=2) zjc.nd rfl (Or.inl rfl) (zaj zbm (zaj zmt (zaj (zaT false) (vv 0) zab) (zaj (zaT false) zab (zaj zmt zab (vv 1)))) zab))
  (zai (zar (zaj zbm (zaj (zaT false) (zaj (zaT false) (zaj zmt (zaj zd0 (vv 2) zab) zab) (zaj zmt (vv 2) (zaj (zaT false) (zaj zmt (vv 1) (vv 1)) zab))) (vv 1)) zab))))
theorem zjp:zaz ["_law_cell_here", "_law_way"] ["_law_cell_here", "_law_way"] (zae zci):=⟨rfl,rfl,rfl,by decide +kernel,rfl,by decide +kernel,by decide +kernel⟩
theorem zkQ (B:Blt mg) (h:HasFn K mg "_law_number" zci):DefV P w K mg base "_law_number" 1 ["_law_cell_here", "_law_way"] zaV:=by
 refine DefV.of h zjp (fun _ _ _ _ _ _ us hl=>us2 us hl (fun _ _=>rfl)) (fun f cdv A outer s H E hr=>?_)
 exact (zaf (zba (zay (o_eq hr.units) (vv 1) zab (zao _))
   (zai (zar (zaj zbm (vv 0) zab)))
   zaw)
  (zaf (zba (zay (o_eq hr.units) (vv 1) zab (zao _))
   (zai (zar (zaj zbR (zaj zbm (vv 0) zab) zab)))
   zaw)
  (zaf (zba (zay (o_eq hr.units) (vv 1) zab (zao _))
   (zai (zar (zaj zbR (zaj zmt zab (zaj zbm (vv 0) zab)) zab)))
   zaw)
  (zaf (zba (zay (o_eq hr.units) (vv 1) zab (zao _))
   (zai (zar (zaj (zaT false) (zaj zmt (zaj zbR (zaj zbm (vv 0) zab) zab) (zaj zm4 zab zab)) (zaj zbm (zaj zd0 (vv 0) zab) zab))))
   zaw)
  (zai (zar (zaD (za0 false (zaa (zaj zbR (zaj zbR zab (zaj zm4 zab zab)) zab) (zaa (zaj zbR zab (zaj zm4 zab zab)) (zaa (zaj zbR (zaj zm4 zab zab) zab) (zaa (zaj zbR (zaj zm4 zab zab) zab) (zaa zab zag)))))) (zaj zbm (vv 0) zab) (fun _ _=>rfl))))))))
theorem zkj:zaz ["_law_cell_here"] ["_law_cell_here"] (zae zcM):=⟨rfl,rfl,rfl,by decide +kernel,rfl,by decide +kernel,by decide +kernel⟩
theorem zk4 (B:Blt mg) (h:HasFn K mg "_law_times" zcM):DefV P w K mg base "_law_times" 1 ["_law_cell_here"] zca:=by
 refine DefV.of h zkj (fun _ _ _ _ _ _ us hl=>us1 us hl (fun _=>rfl)) (fun f cdv A outer s H E hr=>?_)
 exact (zai (zar (zaD (za0 false (zaa zab (zaa zab (zaa zab (zaa (zaj (zaT false) zab (zaj zbm (zaj zd0 (vv 0) zab) zab)) (zaa (zaj (zaT false) zab (zaj zbm (zaj zd0 (vv 0) zab) zab)) (zaa (zaj (zaT false) zab (zaj zbm (zaj zd0 (vv 0) zab) zab)) zag))))))) (zaj zbm (vv 0) zab) (fun _ _=>rfl))))
theorem zll:zaz ["_law_row_here", "_law_number_here"] ["_law_row_here", "_law_number_here"] (zae zcD):=⟨rfl,rfl,rfl,by decide +kernel,rfl,by decide +kernel,by decide +kernel⟩
theorem zm9 (B:Blt mg) (h:HasFn K mg "_law_upto" zcD):DefV P w K mg base "_law_upto" 1 ["_law_row_here", "_law_number_here"] ze0:=by
 refine DefV.of h zll (fun _ _ _ _ _ _ us hl=>us2 us hl (fun _ _=>rfl)) (fun f cdv A outer s H E hr=>?_)
 exact (zai (zar (zaH (zq4 rfl) rfl B.sum boot_sum (zaa (zmA false ["_law_value", "_law_times_here"] [1] rfl (LcOk.of (zae zcD) ["_law_row_here", "_law_number_here"] rfl rfl (by decide +kernel)) (zgW (vv 0)) (fun cl C s H fp=>⟨(zbS rfl (zal (zam (i:=0) (show (["_law_value", "_law_times_here", "_law_number_here"] : List Str).Nodup by decide +kernel) rfl (Or.inl rfl)) (zal (zam (i:=1) (show (["_law_value", "_law_times_here", "_law_number_here"] : List Str).Nodup by decide +kernel) rfl (Or.inl rfl)) zbe))),(zqr (zay o_le (vv 0) (vv 2) (zao _))),(vv 1)⟩)) zag))))
theorem zko:zaz ["_law_row_here", "_law_number_here"] ["_law_row_here", "_law_number_here"] (zae zb4):=⟨rfl,rfl,rfl,by decide +kernel,rfl,by decide +kernel,by decide +kernel⟩
theorem zlP (B:Blt mg) (h:HasFn K mg "_law_below" zb4):DefV P w K mg base "_law_below" 1 ["_law_row_here", "_law_number_here"] zen:=by
 refine DefV.of h zko (fun _ _ _ _ _ _ us hl=>us2 us hl (fun _ _=>rfl)) (fun f cdv A outer s H E hr=>?_)
 exact (zai (zar (zaH (zq4 rfl) rfl B.sum boot_sum (zaa (zmA false ["_law_value", "_law_times_here"] [1] rfl (LcOk.of (zae zb4) ["_law_row_here", "_law_number_here"] rfl rfl (by decide +kernel)) (zgW (vv 0)) (fun cl C s H fp=>⟨(zbS rfl (zal (zam (i:=0) (show (["_law_value", "_law_times_here", "_law_number_here"] : List Str).Nodup by decide +kernel) rfl (Or.inl rfl)) (zal (zam (i:=1) (show (["_law_value", "_law_times_here", "_law_number_here"] : List Str).Nodup by decide +kernel) rfl (Or.inl rfl)) zbe))),(zqr (zay o_lt (vv 0) (vv 2) (zao _))),(vv 1)⟩)) zag))))
theorem zdD:zaz ["_law_row_here", "_law_totals", "_law_value", "_law_times_here"] ["_law_row_here"] (zae zcc):=⟨rfl,rfl,rfl,by decide +kernel,rfl,by decide +kernel,by decide +kernel⟩
theorem zkE (B:Blt mg) (h:HasFn K mg "_law_sorted" zcc):DefV P w K mg base "_law_sorted" 1 ["_law_row_here"] zd1:=by
 refine DefV.of h zdD (fun _ _ _ _ _ _ us hl=>us1 us hl (fun _=>rfl)) (fun f cdv A outer s H E hr=>?_)
 exact (zaf (zav (i:=1) zdD.nd rfl (Or.inl rfl) zmr)
  (zaf (zdL zah.passes rfl (zgW (vv 0)) (zbS rfl (zal (zam (i:=2) zdD.nd rfl (Or.inl rfl)) (zal (zam (i:=3) zdD.nd rfl (Or.inl rfl)) zbe)))
   (zai (zkp (Room.zg3 hr) (vv 1) (vv 2) (zaj (zaT false) (znQ (Room.zg3 hr) (vv 1) (vv 2) zab ⟨rfl,rfl,rfl,rfl⟩) (vv 3)))))
  (zai (zar (zaH (zpz false) rfl B.sorted boot_sorted (zaa (zlU false rfl B.list rfl (vv 1)) zag))))))
theorem zeM:zaz ["_law_values", "_law_place", "_law_total", "_law_value", "_law_times_here"] ["_law_values", "_law_place"] (zae zeK):=⟨rfl,rfl,rfl,by decide +kernel,rfl,by decide +kernel,by decide +kernel⟩
theorem zoF (B:Blt mg) (h:HasFn K mg "_law_at" zeK):DefV P w K mg base "_law_at" 1 ["_law_values", "_law_place"] zfF:=by
 refine DefV.of h zeM (fun _ _ _ _ _ _ us hl=>us2 us hl (fun _ _=>rfl)) (fun f cdv A outer s H E hr=>?_)
 exact (zaf (zav (i:=2) zeM.nd rfl (Or.inl rfl) zab)
  (zaf (zdL zah.passes rfl (zgW (vv 0)) (zbS rfl (zal (zam (i:=3) zeM.nd rfl (Or.inl rfl)) (zal (zam (i:=4) zeM.nd rfl (Or.inl rfl)) zbe)))
   (zaf (zav (i:=2) zeM.nd rfl (Or.inl rfl) (zaj (zaT false) (vv 2) (vv 4)))
   (zai (zba (zay o_le (vv 1) (vv 2) (zao _))
    (zai (zar (vv 3)))
    zaw))))
  (zai (zar zfk))))
theorem zlg:zaz ["_law_cell_here"] ["_law_cell_here"] (zae zdx):=⟨rfl,rfl,rfl,by decide +kernel,rfl,by decide +kernel,by decide +kernel⟩
theorem zmf (B:Blt mg) (h:HasFn K mg "_law_wide" zdx):DefV P w K mg base "_law_wide" 1 ["_law_cell_here"] zdi:=by
 refine DefV.of h zlg (fun _ _ _ _ _ _ us hl=>us1 us hl (fun _=>rfl)) (fun f cdv A outer s H E hr=>?_)
 exact (zai (zar (zaD (za0 false (zaa zab (zaa zab (zaa (zaj zbm (zaj zd0 (vv 0) zab) zab) (zaa (zaj zbm (zaj zd0 (vv 0) zab) zab) zag))))) (zaj zbm (vv 0) zab) (fun _ _=>rfl))))
theorem zcd:zaz ["_law_entries_here", "_law_slack_here", "_law_k", "_law_entry"] ["_law_entries_here"] (zae zcU):=⟨rfl,rfl,rfl,by decide +kernel,rfl,by decide +kernel,by decide +kernel⟩
theorem zla (B:Blt mg) (h:HasFn K mg "_law_slack" zcU):DefV P w K mg base "_law_slack" 1 ["_law_entries_here"] zcS:=by
 refine DefV.of h zcd (fun _ _ _ _ _ _ us hl=>us1 us hl (fun _=>rfl)) (fun f cdv A outer s H E hr=>?_)
 exact (zaf (zav (i:=1) zcd.nd rfl (Or.inl rfl) zab)
  (zaf (zdL zah.passes rfl (zgG rfl B.enumerate (vv 0)) (zbS rfl (zal (zam (i:=2) zcd.nd rfl (Or.inl rfl)) (zal (zam (i:=3) zcd.nd rfl (Or.inl rfl)) zbe)))
   (zaf (zav (i:=1) zcd.nd rfl (Or.inl rfl) (zaH (zny rfl) rfl B.max boot_max (zaa (vv 1) (zaa (zaj zbR (zaD (vv 3) zab (fun _ _=>rfl)) (zaD (vv 3) zab (fun _ _=>rfl))) zag))))
   (zai (zba (VW.vt (zjG (zay o_gt (vv 2) zab (zao _)) (zhQ (zay (o_ne hr.units) (zaD (zaD (vv 0) (zaj zbR (vv 2) zab) (fun _ _=>rfl)) zab (fun _ _=>rfl)) (zaD (vv 3) zab (fun _ _=>rfl)) (zao _)))))
    (zai (zav (i:=1) zcd.nd rfl (Or.inl rfl) (zaH (zny rfl) rfl B.max boot_max (zaa (vv 1) (zaa (zaj zbR (zaj zbR (zaD (vv 3) zab (fun _ _=>rfl)) (zaD (zaD (vv 0) (zaj zbR (vv 2) zab) (fun _ _=>rfl)) zab (fun _ _=>rfl))) zab) zag)))))
    zaw))))
  (zai (zar (vv 1)))))
theorem zdX:zaz ["_law_pouch_here", "_law_k", "_law_number_here", "_law_least", "_law_most"] ["_law_pouch_here", "_law_k"] (zae zcO):=⟨rfl,rfl,rfl,by decide +kernel,rfl,by decide +kernel,by decide +kernel⟩
theorem zln (B:Blt mg) (h:HasFn K mg "_law_alone" zcO):DefV P w K mg base "_law_alone" 1 ["_law_pouch_here", "_law_k"] zcP:=by
 refine DefV.of h zdX (fun _ _ _ _ _ _ us hl=>us2 us hl (fun _ _=>rfl)) (fun f cdv A outer s H E hr=>?_)
 exact (zaf (zg4 (zaD (zaD (vv 0) zab (fun _ _=>rfl)) (vv 1) (fun _ _=>rfl)) (zbS rfl (zal (zam (i:=2) zdX.nd rfl (Or.inl rfl)) (zal (zam (i:=3) zdX.nd rfl (Or.inl rfl)) (zal (zam (i:=4) zdX.nd rfl (Or.inl rfl)) zbe)))))
  (zaf (zba (VW.vt (zfe (VW.vt (zjG (zay (o_eq hr.units) (vv 1) zab (zao _)) (zhQ (zay (o_ne hr.units) (zaN (zaa (vv 3) (zaa (vv 4) zag))) (zaN (zaa zab (zaa zab zag))) (zao _))))) (zez (VW.vt (zjG (zay (o_eq hr.units) (vv 1) (zaj zbR (zaH zkw rfl B.len PySem.boot_len (zaa (zaD (vv 0) zab (fun _ _=>rfl)) zag)) zab) (zao _)) (zhQ (zay (o_ne hr.units) (zaN (zaa (vv 3) (zaa (vv 4) zag))) (zaN (zaa (zaD (vv 0) zab (fun _ _=>rfl)) (zaa (zaD (vv 0) zab (fun _ _=>rfl)) zag))) (zao _))))))))
   (zai (zar zgk))
   zaw)
  (zai (zar (zp9 (zcW o_le (vv 3) (vv 4) (zao _)) (zgs (zcW o_le (zaj zbR (vv 4) (vv 3)) (zaD (vv 0) zab (fun _ _=>rfl)) (zao _))))))))
theorem zbD:zaz ["_law_pouch_here", "_law_k", "_law_number_here", "_law_least", "_law_most", "_law_other", "_law_low", "_law_high"] ["_law_pouch_here", "_law_k"] (zae zcl):=⟨rfl,rfl,rfl,by decide +kernel,rfl,by decide +kernel,by decide +kernel⟩
theorem zjW (B:Blt mg) (h:HasFn K mg "_law_beside" zcl):DefV P w K mg base "_law_beside" 1 ["_law_pouch_here", "_law_k"] zaP:=by
 refine DefV.of h zbD (fun _ _ _ _ _ _ us hl=>us2 us hl (fun _ _=>rfl)) (fun f cdv A outer s H E hr=>?_)
 exact (zaf (zg4 (zaD (zaD (vv 0) zab (fun _ _=>rfl)) (vv 1) (fun _ _=>rfl)) (zbS rfl (zal (zam (i:=2) zbD.nd rfl (Or.inl rfl)) (zal (zam (i:=3) zbD.nd rfl (Or.inl rfl)) (zal (zam (i:=4) zbD.nd rfl (Or.inl rfl)) zbe)))))
  (zaf (zg4 (zaD (zaD (vv 0) zab (fun _ _=>rfl)) (zaj zbR (vv 1) zab) (fun _ _=>rfl)) (zbS rfl (zal (zam (i:=5) zbD.nd rfl (Or.inl rfl)) (zal (zam (i:=6) zbD.nd rfl (Or.inl rfl)) (zal (zam (i:=7) zbD.nd rfl (Or.inl rfl)) zbe)))))
  (zaf (zba (VW.vt (zfe (zay o_lt (vv 2) (vv 5) (zao _)) (zfe (zay o_le (vv 3) (vv 6) (zao _)) (zez (zay o_le (vv 4) (vv 7) (zao _))))))
   (zai (zar zgk))
   zaw)
  (zai (zar (zmv (zcW (o_eq hr.units) (vv 2) (vv 5) (zao _)) (zgs (zcW o_le (zaj zbR (vv 4) (vv 6)) (zaj (zaT false) (zaD (vv 0) zab (fun _ _=>rfl)) zab) (zao _)))))))))
theorem zb3:zaz ["_law_row_here", "_law_total", "_law_k", "_law_run"] ["_law_row_here"] (zae zbX):=⟨rfl,rfl,rfl,by decide +kernel,rfl,by decide +kernel,by decide +kernel⟩
theorem zjj (B:Blt mg) (h:HasFn K mg "_law_bad_run" zbX):DefV P w K mg base "_law_bad_run" 1 ["_law_row_here"] zct:=by
 refine DefV.of h zb3 (fun _ _ _ _ _ _ us hl=>us1 us hl (fun _=>rfl)) (fun f cdv A outer s H E hr=>?_)
 exact (zaf (zav (i:=1) zb3.nd rfl (Or.inl rfl) zab)
  (zaf (zdL zah.passes rfl (zgG rfl B.enumerate (vv 0)) (zbS rfl (zal (zam (i:=2) zb3.nd rfl (Or.inl rfl)) (zal (zam (i:=3) zb3.nd rfl (Or.inl rfl)) zbe)))
   (zaf (zav (i:=1) zb3.nd rfl (Or.inl rfl) (zaj (zaT false) (vv 1) (zaD (vv 3) zab (fun _ _=>rfl))))
   (zai (zba (VW.vt (zfe (zay o_lt (zaD (vv 3) zab (fun _ _=>rfl)) zab (zao _)) (zez (zay o_gt (vv 1) (zaj zm4 zab zab) (zao _)))))
    (zai (zar (vv 2)))
    zaw))))
  (zai (zar zfk))))
theorem zed:zaz ["_law_row_here", "_law_cell_here", "_law_at_here"] ["_law_row_here", "_law_cell_here"] (zae zbb):=⟨rfl,rfl,rfl,by decide +kernel,rfl,by decide +kernel,by decide +kernel⟩
theorem zha (B:Blt mg) (h:HasFn K mg "_law_row_spoiled" zbb):DefV P w K mg base "_law_row_spoiled" 1 ["_law_row_here", "_law_cell_here"] zbw:=by
 refine DefV.of h zed (fun _ _ _ _ _ _ us hl=>us2 us hl (fun _ _=>rfl)) (fun f cdv A outer s H E hr=>?_)
 exact (zaf (zav (i:=2) zed.nd rfl (Or.inl rfl) (zaj zbm (zaj zd0 (vv 1) zab) (zaj (zaT false) (zaH zkw rfl B.len PySem.boot_len (zaa (vv 0) zag)) zab)))
  (zaf (zba (zay (o_eq hr.units) (zaj zbm (vv 1) zab) zab (zao _))
   (zai (zar (zaj (zaT false) (zaj (zaT false) (zbJ false (vv 0) zcp (zco (vv 2))) (za0 false (zaa (zaN (zaa (zaj zbm (vv 1) zab) (zaa (zaD (za0 false (zaa zab (zaa (zaj zbR zab zab) (zaa (zaj zbR zab (vv 1)) zag)))) (zaj zbm (zaj zd0 (vv 1) zab) zab) (fun _ _=>rfl)) zag))) zag))) (zbJ false (vv 0) (zco (vv 2)) zcp))))
   zaw)
  (zaf (zba (zay (o_eq hr.units) (zaj zbm (vv 1) zab) zab (zao _))
   (zai (zar (zaj (zaT false) (zaj (zaT false) (zbJ false (vv 0) zcp (zco (vv 2))) (za0 false (zaa (zaN (zaa (zaj zbm (vv 1) zab) (zaa (zaj (zaT false) (zaj zm4 zab zab) (zaj zbm (zaj zd0 (vv 1) zab) zab)) zag))) zag))) (zbJ false (vv 0) (zco (vv 2)) zcp))))
   zaw)
  (zai (zar (zaj (zaT false) (zaj (zaT false) (zbJ false (vv 0) zcp (zco (vv 2))) (za0 false (zaa (zaN (zaa (zaj zbm (vv 1) zab) (zaa zab zag))) zag))) (zbJ false (vv 0) (zco (vv 2)) zcp)))))))
theorem zaF:zaz ["_law_pouch_here", "_law_at_here", "_law_cell_here", "_law_number_here", "_law_least", "_law_most", "_law_other", "_law_low", "_law_high", "_law_far", "_law_form_here"] ["_law_pouch_here", "_law_at_here", "_law_cell_here"] (zae za2):=⟨rfl,rfl,rfl,by decide +kernel,rfl,by decide +kernel,by decide +kernel⟩
theorem zgm (B:Blt mg) (h:HasFn K mg "_law_entry_spoiled" za2):DefV P w K mg base "_law_entry_spoiled" 1 ["_law_pouch_here", "_law_at_here", "_law_cell_here"] zbE:=by
 refine DefV.of h zaF (fun _ _ _ _ _ _ us hl=>us3 us hl (fun _ _ _=>rfl)) (fun f cdv A outer s H E hr=>?_)
 exact (zaf (zg4 (zaD (zaD (vv 0) zab (fun _ _=>rfl)) (vv 1) (fun _ _=>rfl)) (zbS rfl (zal (zam (i:=3) zaF.nd rfl (Or.inl rfl)) (zal (zam (i:=4) zaF.nd rfl (Or.inl rfl)) (zal (zam (i:=5) zaF.nd rfl (Or.inl rfl)) zbe)))))
  (zaf (zg4 (zaD (zaD (vv 0) zab (fun _ _=>rfl)) (zaj zbR (vv 1) zab) (fun _ _=>rfl)) (zbS rfl (zal (zam (i:=6) zaF.nd rfl (Or.inl rfl)) (zal (zam (i:=7) zaF.nd rfl (Or.inl rfl)) (zal (zam (i:=8) zaF.nd rfl (Or.inl rfl)) zbe)))))
  (zaf (zav (i:=9) zaF.nd rfl (Or.inl rfl) (zaj (zaT false) zab (zaj zbm (zaj zd0 (vv 2) zab) zab)))
  (zaf (zav (i:=10) zaF.nd rfl (Or.inl rfl) (zaj zbm (vv 2) zab))
  (zaf (zba (zay (o_eq hr.units) (vv 10) zab (zao _))
   (zai (zar (zaN (zaa (zaj zbR (vv 6) zab) (zaa (vv 4) (zaa (vv 5) zag))))))
   zaw)
  (zaf (zba (zay (o_eq hr.units) (vv 10) zab (zao _))
   (zai (zar (zaN (zaa (zaj (zaT false) (vv 3) (zaD (za0 false (zaa zab (zaa (zaj zbR zab zab) zag))) (zaj zbm (zaj zd0 (vv 2) zab) zab) (fun _ _=>rfl))) (zaa (vv 4) (zaa (vv 5) zag))))))
   zaw)
  (zaf (zba (zay (o_eq hr.units) (vv 10) zab (zao _))
   (zai (zar (zaN (zaa (vv 3) (zaa (vv 7) (zaa (vv 5) zag))))))
   zaw)
  (zaf (zba (zay (o_eq hr.units) (vv 10) zab (zao _))
   (zai (zar (zaN (zaa (vv 3) (zaa (vv 4) (zaa (vv 8) zag))))))
   zaw)
  (zaf (zba (zay (o_eq hr.units) (vv 10) zab (zao _))
   (zai (zar (zaN (zaa (vv 3) (zaa (zaj (zaT false) (vv 5) zab) (zaa (vv 5) zag))))))
   zaw)
  (zaf (zba (zay (o_eq hr.units) (vv 10) zab (zao _))
   (zai (zar (zaN (zaa (vv 3) (zaa (zaj (zaT false) (vv 4) (vv 9)) (zaa (zaj (zaT false) (vv 5) (vv 9)) zag))))))
   zaw)
  (zaf (zba (zay (o_eq hr.units) (vv 10) zab (zao _))
   (zai (zar (zaN (zaa (vv 3) (zaa (zaj zbR (vv 4) (vv 9)) (zaa (zaj zbR (vv 5) (vv 9)) zag))))))
   zaw)
  (zaf (zba (zay (o_eq hr.units) (vv 10) zab (zao _))
   (zai (zar (zaN (zaa (vv 3) (zaa (vv 5) (zaa (vv 5) zag))))))
   zaw)
  (zai (zar (zaN (zaa (vv 3) (zaa (vv 4) (zaa (vv 4) zag))))))))))))))))))
theorem zix:zaz ["_law_error"] ["_law_error"] (zae zbW):=⟨rfl,rfl,rfl,by decide +kernel,rfl,by decide +kernel,by decide +kernel⟩
theorem zjk (B:Blt mg) (h:HasFn K mg "_law_strange" zbW) (C_NoPlace:ClsN K mg "NoPlace") (C_NoText:ClsN K mg "NoText") (C_NoTimes:ClsN K mg "NoTimes") (C_RankError:ClsN K mg "RankError") (C_Unlike:ClsN K mg "Unlike") (T_all:XTab K ["NoPouch", "NoSize", "NoRow", "Wrong"] ["RankError", "NoRow", "NoPlace", "NoPouch", "NoSize", "Wrong", "NoTimes", "Unlike", "NoText"]) {p d:Addr} {oe:Obj} {e:Exc} (he:Cau K oe d e):DefP P w K mg base "_law_strange" 1 ["_law_error"] p oe (za8 p e):=by
 refine DefP.of h zix (fun _ _ _ _ _ _ us hl=>us1 us hl (fun _=>rfl)) (fun f cdv A outer s H E hr=>?_)
 exact (zaf (zba (VW.vt (zfe (zgS (zfH (zaH (zje (List.mem_append_right _ (List.mem_singleton_self _)) T_all he.cls) rfl B.isinstance boot_isinstance (zaa (vv 0) (zaa (zdG C_RankError rfl) zag))))) (zez (zgS (zfH (zaH (zje (List.mem_append_right _ (List.mem_singleton_self _)) T_all he.cls) rfl B.isinstance boot_isinstance (zaa (vv 0) (zaa (zuQ rfl B.ValueError ziR) zag))))))))
   (zai (zar zgk))
   zaw)
  (zai (zar (zaH (zje (List.mem_append_right _ (List.mem_singleton_self _)) T_all he.cls) rfl B.isinstance boot_isinstance (zaa (vv 0) (zaa (zaN (zaa (zdG C_NoPlace rfl) (zaa (zdG C_NoText rfl) (zaa (zdG C_NoTimes rfl) (zaa (zdG C_Unlike rfl) zag))))) zag))))))
theorem zjr:zaz ["before", "entry", "slack"] ["before", "entry", "slack"] (zae zcj):=⟨rfl,rfl,rfl,by decide +kernel,rfl,by decide +kernel,by decide +kernel⟩
theorem zkv (B:Blt mg) (h:HasFn K mg "good_beside" zcj) (zfd:DefV P w K mg base "near_enough" 1 ["before", "entry", "slack"] zcf):DefV P w K mg base "good_beside" 2 ["before", "entry", "slack"] zbB:=by
 refine DefV.of h zjr (fun _ _ _ _ _ _ us hl=>us3 us hl (fun _ _ _=>rfl)) (fun f cdv A outer s H E hr=>?_)
 exact (zaf (zba (VW.vt (zfe (zay o_lt (zaD (vv 1) zab (fun _ _=>rfl)) (zaD (vv 0) zab (fun _ _=>rfl)) (zao _)) (zfe (zay o_le (zaD (vv 1) zab (fun _ _=>rfl)) (zaD (vv 0) zab (fun _ _=>rfl)) (zao _)) (zez (zay o_le (zaD (vv 1) zab (fun _ _=>rfl)) (zaD (vv 0) zab (fun _ _=>rfl)) (zao _))))))
   (zai (zar zgk))
   zaw)
  (zai (zar (zaJ zah zfd (hr.mono (by decide)) rfl (zaa (vv 0) (zaa (vv 1) (zaa (vv 2) zag)))))))
theorem zcR:zaz ["row", "places", "length", "number", "times"] ["row"] (zae zdl):=⟨rfl,rfl,rfl,by decide +kernel,rfl,by decide +kernel,by decide +kernel⟩
theorem zmy (B:Blt mg) (h:HasFn K mg "places_of" zdl) (zjP:DefV P w K mg base "packed" 1 ["row"] zim):DefV P w K mg base "places_of" 2 ["row"] ze7:=by
 refine DefV.of h zcR (fun _ _ _ _ _ _ us hl=>us1 us hl (fun _=>rfl)) (fun f cdv A outer s H E hr=>?_)
 exact (zaf (zav (i:=1) zcR.nd rfl (Or.inl rfl) zmr)
  (zaf (zav (i:=2) zcR.nd rfl (Or.inl rfl) zab)
  (zaf (zdL zah.passes rfl (zgW (zaJ zah zjP (hr.mono (by decide)) rfl (zaa (vv 0) zag))) (zbS rfl (zal (zam (i:=3) zcR.nd rfl (Or.inl rfl)) (zal (zam (i:=4) zcR.nd rfl (Or.inl rfl)) zbe)))
   (zaf (zkp (Room.zg3 hr) (vv 1) (vv 3) (zaN (zaa (zaj (zaT false) (vv 2) zab) (zaa (zaj (zaT false) (vv 2) (vv 4)) zag))))
   (zai (zav (i:=2) zcR.nd rfl (Or.inl rfl) (zaj (zaT false) (vv 2) (vv 4))))))
  (zai (zar (vv 1))))))
theorem zfp:zaz ["_law_script", "_law_k", "_law_cell_here"] ["_law_script", "_law_k"] (zae zdm):=⟨rfl,rfl,rfl,by decide +kernel,rfl,by decide +kernel,by decide +kernel⟩
theorem zmO (B:Blt mg) (h:HasFn K mg "_law_cell" zdm) (zaM:DefV P w K mg base "_law_mix" 1 ["_law_cell_here", "_law_k"] zaQ):DefV P w K mg base "_law_cell" 2 ["_law_script", "_law_k"] zbq:=by
 refine DefV.of h zfp (fun _ _ _ _ _ _ us hl=>us2 us hl (fun _ _=>rfl)) (fun f cdv A outer s H E hr=>?_)
 exact (zaf (zav (i:=2) zfp.nd rfl (Or.inl rfl) zab)
  (zaf (zba (zay o_lt (vv 1) (zaH zkw rfl B.len PySem.boot_len (zaa (vv 0) zag)) (zao _))
   (zai (zav (i:=2) zfp.nd rfl (Or.inl rfl) (zaj zbm (zaD (vv 0) (vv 1) (fun _ _=>rfl)) zab)))
   zaw)
  (zai (zar (zaJ zah zaM (hr.mono (by decide)) rfl (zaa (vv 2) (zaa (zaj (zaT false) (vv 1) zab) zag)))))))
theorem zbY:zaz ["_law_cell_here", "_law_length", "_law_found", "_law_k", "_law_step", "_law_place"] ["_law_cell_here", "_law_length"] (zae zcm):=⟨rfl,rfl,rfl,by decide +kernel,rfl,by decide +kernel,by decide +kernel⟩
theorem zkR (B:Blt mg) (h:HasFn K mg "_law_places" zcm) (zaM:DefV P w K mg base "_law_mix" 1 ["_law_cell_here", "_law_k"] zaQ):DefV P w K mg base "_law_places" 2 ["_law_cell_here", "_law_length"] zcy:=by
 refine DefV.of h zbY (fun _ _ _ _ _ _ us hl=>us2 us hl (fun _ _=>rfl)) (fun f cdv A outer s H E hr=>?_)
 exact (zaf (zav (i:=2) zbY.nd rfl (Or.inl rfl) (zq0 zab zgk (vv 1) zgk))
  (zaf (zdL zah.passes rfl (zf1 rfl B.range (zaa (zaj zbm (vv 0) zab) zag)) (zam (i:=3) zbY.nd rfl (Or.inl rfl))
   (zaf (zav (i:=4) zbY.nd rfl (Or.inl rfl) (zaJ zah zaM (hr.mono (by decide)) rfl (zaa (vv 0) (zaa (vv 3) zag))))
   (zaf (zav (i:=5) zbY.nd rfl (Or.inl rfl) (zaj (zaT false) zab (zaj zbm (vv 4) (vv 1))))
   (zaf (zba (zay (o_eq hr.units) (zaj zbm (zaj zd0 (vv 4) zab) zab) zab (zao _))
    (zai (zav (i:=5) zbY.nd rfl (Or.inl rfl) (zaj (zaT false) zab (zaj zbm (vv 4) (zaH (znv rfl) rfl B.min boot_min (zaa (vv 1) (zaa zab zag)))))))
    zaw)
   (zai (zkp (Room.zg3 hr) (vv 2) (vv 5) zgk))))))
  (zai (zar (zaH (zoM false) rfl B.sorted boot_sorted (zaa (zna false rfl rfl B.list (vv 2)) zag))))))
theorem zaO:zaz ["_law_row_here", "_law_places_here", "_law_cell_here", "_law_values", "_law_last", "_law_leasts", "_law_mosts", "_law_k", "_law_place", "_law_low", "_law_high"] ["_law_row_here", "_law_places_here", "_law_cell_here"] (zae zbk):=⟨rfl,rfl,rfl,by decide +kernel,rfl,by decide +kernel,by decide +kernel⟩
theorem zjo (B:Blt mg) (h:HasFn K mg "_law_entries" zbk) (ziY:DefV P w K mg base "_law_at" 1 ["_law_values", "_law_place"] zfF) (zaM:DefV P w K mg base "_law_mix" 1 ["_law_cell_here", "_law_k"] zaQ) (zfb:DefV P w K mg base "_law_sorted" 1 ["_law_row_here"] zd1) (ze5:DefV P w K mg base "_law_wide" 1 ["_law_cell_here"] zdi):DefV P w K mg base "_law_entries" 2 ["_law_row_here", "_law_places_here", "_law_cell_here"] zdB:=by
 refine DefV.of h zaO (fun _ _ _ _ _ _ us hl=>us3 us hl (fun _ _ _=>rfl)) (fun f cdv A outer s H E hr=>?_)
 exact (zaf (zav (i:=3) zaO.nd rfl (Or.inr rfl) (zaJ zah zfb (hr.mono (by decide)) rfl (zaa (vv 0) zag)))
  (zaf (zav (i:=4) zaO.nd rfl (Or.inl rfl) (zaD (vv 1) (zk8 zab) (fun _ _=>rfl)))
  (zaf (zav (i:=5) zaO.nd rfl (Or.inr rfl) (za0 true (zaa zab zag)))
  (zaf (zav (i:=6) zaO.nd rfl (Or.inr rfl) (za0 true (zaa (zaj (zaT false) (vv 4) zab) zag)))
  (zaf (zdL zah.passes rfl (zgG rfl B.enumerate (vv 1)) (zbS rfl (zal (zam (i:=7) zaO.nd rfl (Or.inl rfl)) (zal (zam (i:=8) zaO.nd rfl (Or.inl rfl)) zbe)))
   (zaf (zav (i:=9) zaO.nd rfl (Or.inl rfl) (zaH (zny rfl) rfl B.max boot_max (zaa (zaj (zaT false) (zaD (vv 5) (zk8 zab) (fun _ _=>rfl)) zab) (zaa (zaj zbR (vv 8) (zaJ zah ze5 (hr.mono (by decide)) rfl (zaa (zaJ zah zaM (hr.mono (by decide)) rfl (zaa (vv 2) (zaa (zaj (zaT false) zab (vv 7)) zag))) zag))) zag))))
   (zai (zjg (zsL PySem.F.plainAttrs_list PySem.F.slot_list_append PySem.F.type_list_append ziX zkO (vv 5) (zaa (zaD (za0 false (zaa (vv 9) (zaa (vv 8) zag))) (zeH znN rfl B.int PyProof.Rows.boot_int (zaa (zcW (o_eq hr.units) (vv 8) (vv 4) (zao _)) zag)) (fun _ _=>rfl)) zag))))))
  (zaf (zdL zah.passes rfl (zoe rfl B.enumerate rfl B.reversed (vv 1)) (zbS rfl (zal (zam (i:=7) zaO.nd rfl (Or.inl rfl)) (zal (zam (i:=8) zaO.nd rfl (Or.inl rfl)) zbe)))
   (zaf (zav (i:=10) zaO.nd rfl (Or.inl rfl) (zaH (znv rfl) rfl B.min boot_min (zaa (zaj zbR (zaD (vv 6) (zk8 zab) (fun _ _=>rfl)) zab) (zaa (zaj (zaT false) (vv 8) (zaJ zah ze5 (hr.mono (by decide)) rfl (zaa (zaJ zah zaM (hr.mono (by decide)) rfl (zaa (vv 2) (zaa (zaj (zaT false) zab (vv 7)) zag))) zag))) zag))))
   (zai (zjg (zsL PySem.F.plainAttrs_list PySem.F.slot_list_append PySem.F.type_list_append ziX zkO (vv 6) (zaa (zaD (za0 false (zaa (vv 10) (zaa (vv 8) zag))) (zeH znN rfl B.int PyProof.Rows.boot_int (zaa (zcW (o_eq hr.units) (vv 8) zab (zao _)) zag)) (fun _ _=>rfl)) zag))))))
  (zaf (zav (i:=6) zaO.nd rfl (Or.inr rfl) (zmA true ["_law_most"] [] rfl (LcOk.of (zae zbk) ["_law_row_here", "_law_places_here", "_law_cell_here", "_law_values", "_law_last", "_law_leasts", "_law_mosts", "_law_k", "_law_place", "_law_low", "_law_high"] rfl rfl (by decide +kernel)) (zvm rfl B.reversed (vv 6)) (fun cl C s H fp=>⟨(zam (i:=0) (show (["_law_most"] : List Str).Nodup by decide +kernel) rfl (Or.inl rfl)),ziA,(vv 0)⟩)))
  (zai (zar (zmA false ["_law_k", "_law_place"] [3,5,6] rfl (LcOk.of (zae zbk) ["_law_row_here", "_law_places_here", "_law_cell_here", "_law_values", "_law_last", "_law_leasts", "_law_mosts", "_law_k", "_law_place", "_law_low", "_law_high"] rfl rfl (by decide +kernel)) (zgG rfl B.enumerate (vv 1)) (fun cl C s H fp=>⟨(zbS rfl (zal (zam (i:=0) (show (["_law_k", "_law_place", "_law_values", "_law_leasts", "_law_mosts"] : List Str).Nodup by decide +kernel) rfl (Or.inl rfl)) (zal (zam (i:=1) (show (["_law_k", "_law_place", "_law_values", "_law_leasts", "_law_mosts"] : List Str).Nodup by decide +kernel) rfl (Or.inl rfl)) zbe))),ziA,(zaN (zaa (ztd (ps:=["_law_values", "_law_place"]) ziY.calm (by exact hr.mono (by decide)) (by exact rfl) (zaa (vv 2) (zaa (vv 1) zag))) (zaa (zaD (vv 3) (zaj (zaT false) (vv 0) zab) (fun _ _=>rfl)) (zaa (zaD (vv 4) (vv 0) (fun _ _=>rfl)) zag))))⟩)))))))))))
theorem zcK:zaz ["_law_pouch_here", "_law_size", "_law_slack_here", "_law_depth", "_law_entries_here", "_law_k"] ["_law_pouch_here"] (zae zdj):=⟨rfl,rfl,rfl,by decide +kernel,rfl,by decide +kernel,by decide +kernel⟩
theorem zmQ (B:Blt mg) (h:HasFn K mg "_law_form" zdj) (zfV:DefV P w K mg base "_law_alone" 1 ["_law_pouch_here", "_law_k"] zcP) (zeO:DefV P w K mg base "_law_beside" 1 ["_law_pouch_here", "_law_k"] zaP):DefV P w K mg base "_law_form" 2 ["_law_pouch_here"] zbU:=by
 refine DefV.of h zcK (fun _ _ _ _ _ _ us hl=>us1 us hl (fun _=>rfl)) (fun f cdv A outer s H E hr=>?_)
 exact (zaf (zg4 (vv 0) (zbS rfl (zal (zam (i:=1) zcK.nd rfl (Or.inl rfl)) (zal (zam (i:=2) zcK.nd rfl (Or.inl rfl)) (zal (zam (i:=3) zcK.nd rfl (Or.inl rfl)) (zal (zam (i:=4) zcK.nd rfl (Or.inl rfl)) zbe))))))
  (zaf (zba (VW.vt (zfe (zay o_lt (vv 1) zab (zao _)) (zfe (zay o_lt (vv 2) zab (zao _)) (zfe (zay o_lt (vv 3) zab (zao _)) (zez (zay (o_ne hr.units) (zcW (o_eq hr.units) (vv 4) (za0 false zag) (zao _)) (zcW (o_eq hr.units) (vv 1) zab (zao _)) (zao _)))))))
   (zai (zar zab))
   zaw)
  (zaf (zdL zah.passes rfl (zf1 rfl B.range (zaa (zaH zkw rfl B.len PySem.boot_len (zaa (vv 4) zag)) zag)) (zam (i:=5) zcK.nd rfl (Or.inl rfl))
   (zai (zba (VW.vt (zfe (zgS (zfH (zaJ zah zfV (hr.mono (by decide)) rfl (zaa (vv 0) (zaa (vv 5) zag))))) (zez (VW.vt (zjG (zay o_gt (vv 5) zab (zao _)) (zhQ (zgS (zfH (zaJ zah zeO (hr.mono (by decide)) rfl (zaa (vv 0) (zaa (vv 5) zag)))))))))))
    (zai (zar (vv 5)))
    zaw)))
  (zai (zar zfk)))))
theorem zbx:zaz ["_law_row_here", "_law_pouch_here", "_law_place", "_law_k", "_law_entry", "_law_number_here", "_law_least", "_law_most"] ["_law_row_here", "_law_pouch_here"] (zae zcT):=⟨rfl,rfl,rfl,by decide +kernel,rfl,by decide +kernel,by decide +kernel⟩
theorem zlv (B:Blt mg) (h:HasFn K mg "_law_wrong" zcT) (zfE:DefV P w K mg base "_law_below" 1 ["_law_row_here", "_law_number_here"] zen) (zgF:DefV P w K mg base "_law_upto" 1 ["_law_row_here", "_law_number_here"] ze0):DefV P w K mg base "_law_wrong" 2 ["_law_row_here", "_law_pouch_here"] zdH:=by
 refine DefV.of h zbx (fun _ _ _ _ _ _ us hl=>us2 us hl (fun _ _=>rfl)) (fun f cdv A outer s H E hr=>?_)
 exact (zaf (zav (i:=2) zbx.nd rfl (Or.inl rfl) zab)
  (zaf (zdL zah.passes rfl (zgG rfl B.enumerate (zaD (vv 1) zab (fun _ _=>rfl))) (zbS rfl (zal (zam (i:=3) zbx.nd rfl (Or.inl rfl)) (zal (zam (i:=4) zbx.nd rfl (Or.inl rfl)) zbe)))
   (zaf (zg4 (vv 4) (zbS rfl (zal (zam (i:=5) zbx.nd rfl (Or.inl rfl)) (zal (zam (i:=6) zbx.nd rfl (Or.inl rfl)) (zal (zam (i:=7) zbx.nd rfl (Or.inl rfl)) zbe)))))
   (zaf (zav (i:=2) zbx.nd rfl (Or.inl rfl) (zaH (zr4 rfl) rfl B.max boot_max (zaa (zaj (zaT false) (vv 2) zab) (zaa (vv 6) (zaa (zaj (zaT false) (zaJ zah zfE (hr.mono (by decide)) rfl (zaa (vv 0) (zaa (vv 5) zag))) zab) zag)))))
   (zai (zba (zay o_gt (vv 2) (zaH (znv rfl) rfl B.min boot_min (zaa (vv 7) (zaa (zaJ zah zgF (hr.mono (by decide)) rfl (zaa (vv 0) (zaa (vv 5) zag))) zag))) (zao _))
    (zai (zar (vv 3)))
    zaw)))))
  (zai (zar zfk))))
theorem zan:zaz ["_law_pouch_here", "_law_cell_here", "_law_size", "_law_slack_here", "_law_depth", "_law_entries_here", "_law_form_here", "_law_seed", "_law_at_here", "_law_number_here", "_law_least", "_law_most", "_law_more", "_law_bad"] ["_law_pouch_here", "_law_cell_here"] (zae za3):=⟨rfl,rfl,rfl,by decide +kernel,rfl,by decide +kernel,by decide +kernel⟩
theorem zgn (B:Blt mg) (h:HasFn K mg "_law_pouch_spoiled" za3) (zcr:DefV P w K mg base "_law_entry_spoiled" 1 ["_law_pouch_here", "_law_at_here", "_law_cell_here"] zbE) (zcQ:DefV P w K mg base "_law_slack" 1 ["_law_entries_here"] zcS):DefV P w K mg base "_law_pouch_spoiled" 2 ["_law_pouch_here", "_law_cell_here"] zbH:=by
 refine DefV.of h zan (fun _ _ _ _ _ _ us hl=>us2 us hl (fun _ _=>rfl)) (fun f cdv A outer s H E hr=>?_)
 exact (zaf (zg4 (vv 0) (zbS rfl (zal (zam (i:=2) zan.nd rfl (Or.inl rfl)) (zal (zam (i:=3) zan.nd rfl (Or.inl rfl)) (zal (zam (i:=4) zan.nd rfl (Or.inl rfl)) (zal (zam (i:=5) zan.nd rfl (Or.inl rfl)) zbe))))))
  (zaf (zav (i:=6) zan.nd rfl (Or.inl rfl) (zaj zbm (vv 1) zab))
  (zaf (zav (i:=7) zan.nd rfl (Or.inl rfl) (zaj zd0 (vv 1) zab))
  (zaf (zba (zay (o_eq hr.units) (vv 6) zab (zao _))
   (zai (zar (zaD (za0 false (zaa (zaN (zaa (zaj zbR zab zab) (zaa (vv 3) (zaa (vv 4) (zaa (vv 5) zag))))) (zaa (zaN (zaa (vv 2) (zaa (zaj zbR zab zab) (zaa (vv 4) (zaa (vv 5) zag))))) (zaa (zaN (zaa (vv 2) (zaa (vv 3) (zaa (zaj zbR zab zab) (zaa (vv 5) zag))))) zag)))) (zaj zbm (vv 7) zab) (fun _ _=>rfl))))
   zaw)
  (zaf (zba (zay (o_eq hr.units) (vv 6) zab (zao _))
   (zai (zar (zaN (zaa (zaj (zaT false) (vv 2) (zaD (za0 false (zaa zab (zaa (zaj zbR zab zab) (zaa (zaj zbR zab (vv 2)) zag)))) (zaj zbm (vv 7) zab) (fun _ _=>rfl))) (zaa (vv 3) (zaa (vv 4) (zaa (vv 5) zag)))))))
   zaw)
  (zaf (zba (VW.vt (zfe (zay (o_eq hr.units) (vv 6) zab (zao _)) (zez (zay (o_eq hr.units) (vv 5) (za0 false zag) (zao _)))))
   (zai (zar (zaN (zaa (vv 2) (zaa (vv 3) (zaa (vv 4) (zaa (zaD (za0 false (zaa (za0 false zag) (zaa (za0 false (zaa (zaN (zaa (zaj zbm (vv 7) zab) (zaa zab (zaa zab zag)))) zag)) zag))) (zeH znN rfl B.int PyProof.Rows.boot_int (zaa (zcW (o_eq hr.units) (vv 5) (za0 false zag) (zao _)) zag)) (fun _ _=>rfl)) zag)))))))
   zaw)
  (zaf (zba (zay (o_eq hr.units) (vv 6) zab (zao _))
   (zai (zar (zaN (zaa (vv 2) (zaa (zaH (zny rfl) rfl B.max boot_max (zaa zab (zaa (zaj zbR (zaJ zah zcQ (hr.mono (by decide)) rfl (zaa (vv 5) zag)) zab) zag))) (zaa (vv 4) (zaa (vv 5) zag)))))))
   zaw)
  (zaf (zav (i:=8) zan.nd rfl (Or.inl rfl) (zaj zbm (vv 7) (zaH zkw rfl B.len PySem.boot_len (zaa (vv 5) zag))))
  (zaf (zba (zay (o_eq hr.units) (vv 6) zab (zao _))
   (zai (zar (zaN (zaa (vv 2) (zaa (vv 3) (zaa (vv 4) (zaa (zaj (zaT false) (zbJ false (vv 5) zcp (zco (vv 8))) (zbJ false (vv 5) (zco (zaj (zaT false) (vv 8) zab)) zcp)) zag)))))))
   zaw)
  (zaf (zba (zay (o_eq hr.units) (vv 6) zab (zao _))
   (zaf (zg4 (zaD (vv 5) (vv 8) (fun _ _=>rfl)) (zbS rfl (zal (zam (i:=9) zan.nd rfl (Or.inl rfl)) (zal (zam (i:=10) zan.nd rfl (Or.inl rfl)) (zal (zam (i:=11) zan.nd rfl (Or.inl rfl)) zbe)))))
   (zaf (zav (i:=12) zan.nd rfl (Or.inl rfl) (zaN (zaa (vv 9) (zaa (zaj (zaT false) (vv 10) (zaj zbm (zaj zd0 (vv 7) zab) zab)) (zaa (zaj (zaT false) (vv 11) (zaj zbm (zaj zd0 (vv 7) zab) zab)) zag)))))
   (zai (zar (zaN (zaa (vv 2) (zaa (vv 3) (zaa (vv 4) (zaa (zaj (zaT false) (zaj (zaT false) (zbJ false (vv 5) zcp (zco (vv 8))) (za0 false (zaa (zaD (vv 5) (vv 8) (fun _ _=>rfl)) (zaa (vv 12) zag)))) (zbJ false (vv 5) (zco (zaj (zaT false) (vv 8) zab)) zcp)) zag)))))))))
   zaw)
  (zaf (zba (zay (o_eq hr.units) (vv 6) zab (zao _))
   (zaf (zav (i:=13) zan.nd rfl (Or.inl rfl) (zaD (za0 false (zaa (zaN (zaa zab (zaa zab zag))) (zaa (zaN (zaa zab (zaa zab zag))) (zaa (zaN (zaa zab (zaa zab zag))) (zaa (zaN (zaa zab (zaa zab zag))) zag))))) (zaj zbm (zaj zd0 (vv 7) zab) zab) (fun _ _=>rfl)))
   (zai (zar (zaN (zaa (vv 2) (zaa (vv 3) (zaa (vv 4) (zaa (zaj (zaT false) (za0 false (zaa (zaj (zaT false) (zaN (zaa (zaD (zaD (vv 5) zab (fun _ _=>rfl)) zab (fun _ _=>rfl)) zag)) (vv 13)) zag)) (zbJ false (vv 5) (zco zab) zcp)) zag))))))))
   zaw)
  (zaf (zba (zay (o_eq hr.units) (vv 6) zab (zao _))
   (zaf (zav (i:=13) zan.nd rfl (Or.inl rfl) (zaD (za0 false (zaa (zaN (zaa (zaj zbR (vv 2) zab) (zaa (vv 2) zag))) (zaa (zaN (zaa (vv 2) (zaa (zaj (zaT false) (vv 2) zab) zag))) (zaa (zaN (zaa (zaj zbR (vv 2) zab) (zaa (zaj zbR (vv 2) zab) zag))) (zaa (zaN (zaa (zaj (zaT false) (vv 2) zab) (zaa (zaj (zaT false) (vv 2) zab) zag))) zag))))) (zaj zbm (zaj zd0 (vv 7) zab) zab) (fun _ _=>rfl)))
   (zai (zar (zaN (zaa (vv 2) (zaa (vv 3) (zaa (vv 4) (zaa (zaj (zaT false) (zbJ false (vv 5) zcp (zco (zk8 zab))) (za0 false (zaa (zaj (zaT false) (zaN (zaa (zaD (zaD (vv 5) (zk8 zab) (fun _ _=>rfl)) zab (fun _ _=>rfl)) zag)) (vv 13)) zag))) zag))))))))
   zaw)
  (zai (zar (zaN (zaa (vv 2) (zaa (vv 3) (zaa (vv 4) (zaa (zaj (zaT false) (zaj (zaT false) (zbJ false (vv 5) zcp (zco (vv 8))) (za0 false (zaa (zaJ zah zcr (hr.mono (by decide)) rfl (zaa (vv 0) (zaa (vv 8) (zaa (zaj zd0 (vv 7) zab) zag)))) zag))) (zbJ false (vv 5) (zco (zaj (zaT false) (vv 8) zab)) zcp)) zag)))))))))))))))))))
theorem zc6:zaz ["pouch", "at", "size", "slack", "entries", "entry"] ["pouch", "at"] (zae zcL):=⟨rfl,rfl,rfl,by decide +kernel,rfl,by decide +kernel,by decide +kernel⟩
theorem zlw (B:Blt mg) (h:HasFn K mg "good_entry" zcL) (zfQ:DefV P w K mg base "good_alone" 1 ["entry", "slack"] zcV) (ze2:DefV P w K mg base "good_beside" 2 ["before", "entry", "slack"] zbB) (zeP:DefV P w K mg base "stands_at" 1 ["entry", "place"] zcz):DefV P w K mg base "good_entry" 3 ["pouch", "at"] zaX:=by
 refine DefV.of h zc6 (fun _ _ _ _ _ _ us hl=>us2 us hl (fun _ _=>rfl)) (fun f cdv A outer s H E hr=>?_)
 exact (zaf (zav (i:=2) zc6.nd rfl (Or.inl rfl) (zaD (vv 0) zab (fun _ _=>rfl)))
  (zaf (zav (i:=3) zc6.nd rfl (Or.inl rfl) (zaD (vv 0) zab (fun _ _=>rfl)))
  (zaf (zav (i:=4) zc6.nd rfl (Or.inl rfl) (zaD (vv 0) zab (fun _ _=>rfl)))
  (zaf (zav (i:=5) zc6.nd rfl (Or.inl rfl) (zaD (vv 4) (vv 1) (fun _ _=>rfl)))
  (zaf (zba (VW.vt (zjG (zay (o_eq hr.units) (vv 1) zab (zao _)) (zhQ (zgS (zfH (zaJ zah zeP (hr.mono (by decide)) rfl (zaa (vv 5) (zaa zab zag))))))))
   (zai (zar zgk))
   zaw)
  (zaf (zba (VW.vt (zjG (zay (o_eq hr.units) (vv 1) (zaj zbR (zaH zkw rfl B.len PySem.boot_len (zaa (vv 4) zag)) zab) (zao _)) (zhQ (zgS (zfH (zaJ zah zeP (hr.mono (by decide)) rfl (zaa (vv 5) (zaa (vv 2) zag))))))))
   (zai (zar zgk))
   zaw)
  (zaf (zba (zgS (zfH (zaJ zah zfQ (hr.mono (by decide)) rfl (zaa (vv 5) (zaa (vv 3) zag)))))
   (zai (zar zgk))
   zaw)
  (zai (zar (zmv (zcW (o_eq hr.units) (vv 1) zab (zao _)) (zgs (zaJ zah ze2 (hr.mono (by decide)) rfl (zaa (zaD (vv 4) (zaj zbR (vv 1) zab) (fun _ _=>rfl)) (zaa (vv 5) (zaa (vv 3) zag)))))))))))))))
theorem zdz:zaz ["row", "length", "at", "run", "times"] ["row"] (zae zd8):=⟨rfl,rfl,rfl,by decide +kernel,rfl,by decide +kernel,by decide +kernel⟩
theorem zob (B:Blt mg) (h:HasFn K mg "look_row" zd8) (zjf:∃ t,mg "LONGEST" = some (.int 1000000000 t)) (O_NoRow:OwnF K mg "NoRow" "at"):DefV P w K mg base "look_row" 3 ["row"] zgg:=by
 refine DefV.of h zdz (fun _ _ _ _ _ _ us hl=>us1 us hl (fun _=>rfl)) (fun f cdv A outer s H E hr=>?_)
 exact (zaf (zav (i:=1) zdz.nd rfl (Or.inl rfl) zab)
  (zaf (zdL zah.passes rfl (zgG rfl B.enumerate (vv 0)) (zbS rfl (zal (zam (i:=2) zdz.nd rfl (Or.inl rfl)) (zal (zam (i:=3) zdz.nd rfl (Or.inl rfl)) zbe)))
   (zaf (zav (i:=4) zdz.nd rfl (Or.inl rfl) (zaD (vv 3) zab (fun _ _=>rfl)))
   (zaf (zav (i:=1) zdz.nd rfl (Or.inl rfl) (zaj (zaT false) (vv 1) (vv 4)))
   (zai (zba (VW.vt (zfe (zay o_lt (vv 4) zab (zao _)) (zez (zay o_gt (vv 1) (zqR rfl zjf) (zao _)))))
    (zai (zfR (k:=0) zah rfl O_NoRow (hr.mono (by decide)) rfl (zaa (vv 2) zag)))
    zaw)))))
  (zai (zar (vv 1)))))
theorem zbV:zaz ["places", "entries", "place", "at", "entry", "stands"] ["places", "entries"] (zae zcg):=⟨rfl,rfl,rfl,by decide +kernel,rfl,by decide +kernel,by decide +kernel⟩
theorem zkU (B:Blt mg) (h:HasFn K mg "look_places" zcg) (O_Wrong:OwnF K mg "Wrong" "at"):DefV P w K mg base "look_places" 3 ["places", "entries"] zcx:=by
 refine DefV.of h zbV (fun _ _ _ _ _ _ us hl=>us2 us hl (fun _ _=>rfl)) (fun f cdv A outer s H E hr=>?_)
 exact (zaf (zav (i:=2) zbV.nd rfl (Or.inl rfl) zab)
  (zai (zdL zah.passes rfl (zgG rfl B.enumerate (vv 1)) (zbS rfl (zal (zam (i:=3) zbV.nd rfl (Or.inl rfl)) (zal (zam (i:=4) zbV.nd rfl (Or.inl rfl)) zbe)))
   (zaf (zba (zo6 (Room.zg3 hr) (zaD (vv 4) zab (fun _ _=>rfl)) (vv 0))
    (zai (zfR (k:=0) zah rfl O_Wrong (hr.mono (by decide)) rfl (zaa (vv 3) zag)))
    zaw)
   (zaf (zav (i:=5) zbV.nd rfl (Or.inl rfl) (zpl (Room.zg3 hr) (vv 0) (zaD (vv 4) zab (fun _ _=>rfl)) (fun _ _=>rfl)))
   (zaf (zav (i:=2) zbV.nd rfl (Or.inl rfl) (zaH (zr4 rfl) rfl B.max boot_max (zaa (zaj (zaT false) (vv 2) zab) (zaa (zaD (vv 4) zab (fun _ _=>rfl)) (zaa (zaD (vv 5) zab (fun _ _=>rfl)) zag)))))
   (zai (zba (VW.vt (zfe (zay o_gt (vv 2) (zaD (vv 4) zab (fun _ _=>rfl)) (zao _)) (zez (zay o_gt (vv 2) (zaD (vv 5) zab (fun _ _=>rfl)) (zao _)))))
    (zai (zfR (k:=0) zah rfl O_Wrong (hr.mono (by decide)) rfl (zaa (vv 3) zag)))
    zaw))))))))
theorem zee:zaz ["_law_script", "_law_start", "_law_most", "_law_way", "_law_row_here", "_law_k", "_law_cell_here"] ["_law_script", "_law_start", "_law_most"] (zae zd7):=⟨rfl,rfl,rfl,by decide +kernel,rfl,by decide +kernel,by decide +kernel⟩
theorem zn9 (B:Blt mg) (h:HasFn K mg "_law_row" zd7) (zbQ:DefV P w K mg base "_law_cell" 2 ["_law_script", "_law_k"] zbq) (zaM:DefV P w K mg base "_law_mix" 1 ["_law_cell_here", "_law_k"] zaQ) (ze4:DefV P w K mg base "_law_number" 1 ["_law_cell_here", "_law_way"] zaV) (zfS:DefV P w K mg base "_law_times" 1 ["_law_cell_here"] zca):DefV P w K mg base "_law_row" 3 ["_law_script", "_law_start", "_law_most"] zc7:=by
 refine DefV.of h zee (fun _ _ _ _ _ _ us hl=>us3 us hl (fun _ _ _=>rfl)) (fun f cdv A outer s H E hr=>?_)
 exact (zaf (zav (i:=3) zee.nd rfl (Or.inl rfl) (zaj zbm (zaJ zah zaM (hr.mono (by decide)) rfl (zaa (zaJ zah zbQ (hr.mono (by decide)) rfl (zaa (vv 0) (zaa zab zag))) (zaa zab zag))) zab))
  (zaf (zav (i:=4) zee.nd rfl (Or.inl rfl) (za0 true zag))
  (zaf (zdL zah.passes rfl (zpy rfl B.range (zaa (vv 1) (zaa (zaH (znv rfl) rfl B.min boot_min (zaa (zaH zkw rfl B.len PySem.boot_len (zaa (vv 0) zag)) (zaa (zaj (zaT false) (vv 1) (vv 2)) zag))) zag))) (zam (i:=5) zee.nd rfl (Or.inl rfl))
   (zaf (zav (i:=6) zee.nd rfl (Or.inl rfl) (zaJ zah zaM (hr.mono (by decide)) rfl (zaa (zaJ zah zbQ (hr.mono (by decide)) rfl (zaa (vv 0) (zaa (vv 5) zag))) (zaa (vv 5) zag))))
   (zai (zjg (zsL PySem.F.plainAttrs_list PySem.F.slot_list_append PySem.F.type_list_append ziX zkO (vv 4) (zaa (zaN (zaa (zaJ zah ze4 (hr.mono (by decide)) rfl (zaa (zaJ zah zaM (hr.mono (by decide)) rfl (zaa (vv 6) (zaa zab zag))) (zaa (vv 3) zag))) (zaa (zaJ zah zfS (hr.mono (by decide)) rfl (zaa (zaJ zah zaM (hr.mono (by decide)) rfl (zaa (vv 6) (zaa zab zag))) zag)) zag))) zag))))))
  (zai (zar (vf 4))))))
theorem zeZ:zaz ["_law_row_here", "_law_cell_here", "_law_length", "_law_entries_here"] ["_law_row_here", "_law_cell_here"] (zae zb8):=⟨rfl,rfl,rfl,by decide +kernel,rfl,by decide +kernel,by decide +kernel⟩
theorem zlW (B:Blt mg) (h:HasFn K mg "_law_pouch" zb8) (zeE:DefV P w K mg base "_law_entries" 2 ["_law_row_here", "_law_places_here", "_law_cell_here"] zdB) (zaM:DefV P w K mg base "_law_mix" 1 ["_law_cell_here", "_law_k"] zaQ) (ze3:DefV P w K mg base "_law_places" 2 ["_law_cell_here", "_law_length"] zcy) (zcQ:DefV P w K mg base "_law_slack" 1 ["_law_entries_here"] zcS):DefV P w K mg base "_law_pouch" 3 ["_law_row_here", "_law_cell_here"] zer:=by
 refine DefV.of h zeZ (fun _ _ _ _ _ _ us hl=>us2 us hl (fun _ _=>rfl)) (fun f cdv A outer s H E hr=>?_)
 exact (zaf (zav (i:=2) zeZ.nd rfl (Or.inl rfl) (zaH (zq4 rfl) rfl B.sum boot_sum (zaa (zmA false ["_law_value", "_law_times_here"] [] rfl (LcOk.of (zae zb8) ["_law_row_here", "_law_cell_here", "_law_length", "_law_entries_here"] rfl rfl (by decide +kernel)) (zgW (vv 0)) (fun cl C s H fp=>⟨(zbS rfl (zal (zam (i:=0) (show (["_law_value", "_law_times_here"] : List Str).Nodup by decide +kernel) rfl (Or.inl rfl)) (zal (zam (i:=1) (show (["_law_value", "_law_times_here"] : List Str).Nodup by decide +kernel) rfl (Or.inl rfl)) zbe))),ziA,(vv 1)⟩)) zag)))
  (zaf (zba (zay (o_eq hr.units) (vv 2) zab (zao _))
   (zai (zar (zaN (zaa zab (zaa (zaj zbm (vv 1) zab) (zaa (zaj zbm (zaj zd0 (vv 1) zab) zab) (zaa (za0 false zag) zag)))))))
   zaw)
  (zaf (zav (i:=3) zeZ.nd rfl (Or.inl rfl) (zaJ zah zeE (hr.mono (by decide)) rfl (zaa (vv 0) (zaa (zaJ zah ze3 (hr.mono (by decide)) rfl (zaa (zaJ zah zaM (hr.mono (by decide)) rfl (zaa (vv 1) (zaa zab zag))) (zaa (vv 2) zag))) (zaa (vv 1) zag)))))
  (zai (zar (zaN (zaa (vv 2) (zaa (zaj (zaT false) (zaJ zah zcQ (hr.mono (by decide)) rfl (zaa (vv 3) zag)) (zaD (za0 false (zaa zab (zaa zab (zaa zab (zaa (zaj zbm (zaj zd0 (vv 1) zab) zab) zag))))) (zaj zbm (vv 1) zab) (fun _ _=>rfl))) (zaa (zaj zbm (zaj zd0 (vv 1) zab) zab) (zaa (vv 3) zag))))))))))
theorem zmx:zaz ["_law_row_here", "_law_pouch_here"] ["_law_row_here", "_law_pouch_here"] (zae zdd):=⟨rfl,rfl,rfl,by decide +kernel,rfl,by decide +kernel,by decide +kernel⟩
theorem zn8 (B:Blt mg) (h:HasFn K mg "_law_due" zdd) (zdA:DefV P w K mg base "_law_bad_run" 1 ["_law_row_here"] zct) (zfg:DefV P w K mg base "_law_form" 2 ["_law_pouch_here"] zbU) (zex:DefV P w K mg base "_law_wrong" 2 ["_law_row_here", "_law_pouch_here"] zdH):DefV P w K mg base "_law_due" 3 ["_law_row_here", "_law_pouch_here"] zd2:=by
 refine DefV.of h zmx (fun _ _ _ _ _ _ us hl=>us2 us hl (fun _ _=>rfl)) (fun f cdv A outer s H E hr=>?_)
 exact (zaf (zba (zay zp0 (zaJ zah zdA (hr.mono (by decide)) rfl (zaa (vv 0) zag)) zfk (zao _))
   (zai (zar (za0 false (zaa zfh (zaa (zaJ zah zdA (hr.mono (by decide)) rfl (zaa (vv 0) zag)) zag)))))
   zaw)
  (zaf (zba (zay zp0 (zaJ zah zfg (hr.mono (by decide)) rfl (zaa (vv 1) zag)) zfk (zao _))
   (zai (zar (za0 false (zaa zfh (zaa (zaJ zah zfg (hr.mono (by decide)) rfl (zaa (vv 1) zag)) zag)))))
   zaw)
  (zaf (zba (zay (o_ne hr.units) (zaD (vv 1) zab (fun _ _=>rfl)) (zaH (zq4 rfl) rfl B.sum boot_sum (zaa (zmA false ["_law_value", "_law_times_here"] [] rfl (LcOk.of (zae zdd) ["_law_row_here", "_law_pouch_here"] rfl rfl (by decide +kernel)) (zgW (vv 0)) (fun cl C s H fp=>⟨(zbS rfl (zal (zam (i:=0) (show (["_law_value", "_law_times_here"] : List Str).Nodup by decide +kernel) rfl (Or.inl rfl)) (zal (zam (i:=1) (show (["_law_value", "_law_times_here"] : List Str).Nodup by decide +kernel) rfl (Or.inl rfl)) zbe))),ziA,(vv 1)⟩)) zag)) (zao _))
   (zai (zar (za0 false (zaa zfh (zaa zab zag)))))
   zaw)
  (zaf (zba (zay zp0 (zaJ zah zex (hr.mono (by decide)) rfl (zaa (vv 0) (zaa (vv 1) zag))) zfk (zao _))
   (zai (zar (za0 false (zaa zfh (zaa (zaJ zah zex (hr.mono (by decide)) rfl (zaa (vv 0) (zaa (vv 1) zag))) zag)))))
   zaw)
  (zai (zar (za0 false (zaa zfh (zaa zab zag)))))))))
theorem zgR:zaz ["pouch", "at"] ["pouch"] (zae zcI):=⟨rfl,rfl,rfl,by decide +kernel,rfl,by decide +kernel,by decide +kernel⟩
theorem zlH (B:Blt mg) (h:HasFn K mg "look_pouch" zcI) (zfZ:DefV P w K mg base "good_entry" 3 ["pouch", "at"] zaX) (zgJ:DefV P w K mg base "good_head" 1 ["pouch"] za5) (O_NoPouch:OwnF K mg "NoPouch" "at"):DefV P w K mg base "look_pouch" 4 ["pouch"] zb9:=by
 refine DefV.of h zgR (fun _ _ _ _ _ _ us hl=>us1 us hl (fun _=>rfl)) (fun f cdv A outer s H E hr=>?_)
 exact (zaf (zba (zgS (zfH (zaJ zah zgJ (hr.mono (by decide)) rfl (zaa (vv 0) zag))))
   (zai (zfR (k:=0) zah rfl O_NoPouch (hr.mono (by decide)) rfl (zaa zab zag)))
   zaw)
  (zaf (zdL zah.passes rfl (zf1 rfl B.range (zaa (zaH zkw rfl B.len PySem.boot_len (zaa (zaD (vv 0) zab (fun _ _=>rfl)) zag)) zag)) (zam (i:=1) zgR.nd rfl (Or.inl rfl))
   (zai (zba (zgS (zfH (zaJ zah zfZ (hr.mono (by decide)) rfl (zaa (vv 0) (zaa (vv 1) zag)))))
    (zai (zfR (k:=0) zah rfl O_NoPouch (hr.mono (by decide)) rfl (zaa (vv 1) zag)))
    zaw)))
  (zai (zar zgk))))
theorem znp:zaz ["row", "pouch", "length"] ["row", "pouch"] (zae zhH):=⟨rfl,rfl,rfl,by decide +kernel,rfl,by decide +kernel,by decide +kernel⟩
theorem ztF (B:Blt mg) (h:HasFn K mg "judge" zhH) (zeW:DefV P w K mg base "look_places" 3 ["places", "entries"] zcx) (zfL:DefV P w K mg base "look_pouch" 4 ["pouch"] zb9) (zhJ:DefV P w K mg base "look_row" 3 ["row"] zgg) (zgI:DefV P w K mg base "places_of" 2 ["row"] ze7) (O_NoSize:OwnC K mg "NoSize"):DefV P w K mg base "judge" 5 ["row", "pouch"] zgd:=by
 refine DefV.of h znp (fun _ _ _ _ _ _ us hl=>us2 us hl (fun _ _=>rfl)) (fun f cdv A outer s H E hr=>?_)
 exact (zaf (zav (i:=2) znp.nd rfl (Or.inl rfl) (zaJ zah zhJ (hr.mono (by decide)) rfl (zaa (vv 0) zag)))
  (zaf (zjg (zaJ zah zfL (hr.mono (by decide)) rfl (zaa (vv 1) zag)))
  (zaf (zba (zay (o_ne hr.units) (zaD (vv 1) zab (fun _ _=>rfl)) (vv 2) (zao _))
   (zai (zpk zah rfl O_NoSize rfl (zaa zfh zag)))
   zaw)
  (zaf (zjg (zaJ zah zeW (hr.mono (by decide)) rfl (zaa (zaJ zah zgI (hr.mono (by decide)) rfl (zaa (vv 0) zag)) (zaa (zaD (vv 1) zab (fun _ _=>rfl)) zag))))
  (zai (zar zgk))))))
theorem zaR:zaz ["_law_row_here", "_law_pouch_here", "_law_handed", "_law_told", "_law_found", "_law_error"] ["_law_row_here", "_law_pouch_here"] (zae zcJ):=⟨rfl,rfl,rfl,by decide +kernel,rfl,by decide +kernel,by decide +kernel⟩
theorem zlm (B:Blt mg) (h:HasFn K mg "_law_asked" zcJ) (C_NoPouch:ClsN K mg "NoPouch") (C_NoRow:ClsN K mg "NoRow") (C_NoSize:ClsN K mg "NoSize") (C_Wrong:ClsN K mg "Wrong") (zmh:DefV P w K mg base "judge" 5 ["row", "pouch"] zgd) (zbT:∀ {p d:Addr} {oe:Obj} {e:Exc},Cau K oe d e→DefP P w K mg base "_law_strange" 1 ["_law_error"] p oe (za8 p e)) (F_at:XFld K ["NoPouch", "NoRow", "Wrong"] "at") (T_all:XTab K ["NoPouch", "NoSize", "NoRow", "Wrong"] ["RankError", "NoRow", "NoPlace", "NoPouch", "NoSize", "Wrong", "NoTimes", "Unlike", "NoText"]):DefV P w K mg base "_law_asked" 6 ["_law_row_here", "_law_pouch_here"] zbO:=by
 refine DefV.ofN (DefN.of0 h zaR (fun _ _ _ _ _ _ us hl=>us2 us hl (fun _ _=>rfl)) (fun f cdv A outer s H E hr=>?_))
 exact (zek (VS.v0 (zav (i:=2) zaR.nd rfl (Or.inl rfl) (zaN (zaa (zeH (zsi false) rfl B.list PyProof.Rows.boot_list (zaa (vv 0) zag)) (zaa (zaj (zaT false) (zbJ false (vv 1) zcp (zco zab)) (zaN (zaa (zeH (zsi false) rfl B.list PyProof.Rows.boot_list (zaa (zaD (vv 1) zab (fun _ _=>rfl)) zag)) zag))) zag)))))
  (zek (VS.v0 (zav (i:=3) zaR.nd rfl (Or.inl rfl) zfk))
  (zek (VS.v0 (zav (i:=4) zaR.nd rfl (Or.inl rfl) zfk))
  (zek (zsp zhd rfl (fun W=>(VSs.v0 (zai (zav (i:=4) zaR.nd rfl (Or.inl rfl) (zaJ zoZ zmh (hr.mono (by decide)) rfl (zaa (zaD (vv 2) zab (fun _ _=>rfl)) (zaa (zaD (vv 2) zab (fun _ _=>rfl)) zag)))))))
   (zkr (i:=5) (rs:=["NoPouch", "NoSize", "NoRow", "Wrong"]) (ns:=["RankError", "NoRow", "NoPlace", "NoPouch", "NoSize", "Wrong", "NoTimes", "Unlike", "NoText"]) zhd C_NoRow rfl T_all zaR.nd rfl rfl (fun p oe d e he=>(zai (zav (i:=3) zaR.nd rfl (Or.inl rfl) (za0 false (zaa zfh (zaa (zpV (vv 5) (List.mem_append_right _ (List.mem_singleton_self _)) he F_at) (zaa (zmv (zj5 (ps:=["_law_error"]) (zbT he) (by exact hr.mono (by decide)) (by exact rfl) (zaa (vv 5) zag)) (zgs (zaH (zje (List.mem_append_right _ (List.mem_singleton_self _)) T_all he.cls) rfl B.isinstance boot_isinstance (zaa (vv 5) (zaa (zaN (zaa (zdG C_NoPouch rfl) (zaa (zdG C_NoSize rfl) (zaa (zdG C_Wrong rfl) zag)))) zag))))) zag)))))))
   (zkr (i:=5) (rs:=["NoPouch", "NoSize", "NoRow", "Wrong"]) (ns:=["RankError", "NoRow", "NoPlace", "NoPouch", "NoSize", "Wrong", "NoTimes", "Unlike", "NoText"]) zhd C_NoPouch rfl T_all zaR.nd rfl rfl (fun p oe d e he=>(zai (zav (i:=3) zaR.nd rfl (Or.inl rfl) (za0 false (zaa zfh (zaa (zpV (vv 5) (List.mem_append_right _ (List.mem_singleton_self _)) he F_at) (zaa (zmv (zj5 (ps:=["_law_error"]) (zbT he) (by exact hr.mono (by decide)) (by exact rfl) (zaa (vv 5) zag)) (zgs (zaH (zje (List.mem_append_right _ (List.mem_singleton_self _)) T_all he.cls) rfl B.isinstance boot_isinstance (zaa (vv 5) (zaa (zaN (zaa (zdG C_NoRow rfl) (zaa (zdG C_NoSize rfl) (zaa (zdG C_Wrong rfl) zag)))) zag))))) zag)))))))
   (zkr (i:=5) (rs:=["NoPouch", "NoSize", "NoRow", "Wrong"]) (ns:=["RankError", "NoRow", "NoPlace", "NoPouch", "NoSize", "Wrong", "NoTimes", "Unlike", "NoText"]) zhd C_NoSize rfl T_all zaR.nd rfl rfl (fun p oe d e he=>(zai (zav (i:=3) zaR.nd rfl (Or.inl rfl) (za0 false (zaa zfh (zaa zab (zaa (zmv (zj5 (ps:=["_law_error"]) (zbT he) (by exact hr.mono (by decide)) (by exact rfl) (zaa (vv 5) zag)) (zgs (zaH (zje (List.mem_append_right _ (List.mem_singleton_self _)) T_all he.cls) rfl B.isinstance boot_isinstance (zaa (vv 5) (zaa (zaN (zaa (zdG C_NoRow rfl) (zaa (zdG C_NoPouch rfl) (zaa (zdG C_Wrong rfl) zag)))) zag))))) zag)))))))
   (zkr (i:=5) (rs:=["NoPouch", "NoSize", "NoRow", "Wrong"]) (ns:=["RankError", "NoRow", "NoPlace", "NoPouch", "NoSize", "Wrong", "NoTimes", "Unlike", "NoText"]) zhd C_Wrong rfl T_all zaR.nd rfl rfl (fun p oe d e he=>(zai (zav (i:=3) zaR.nd rfl (Or.inl rfl) (za0 false (zaa zfh (zaa (zpV (vv 5) (List.mem_append_right _ (List.mem_singleton_self _)) he F_at) (zaa (zmv (zj5 (ps:=["_law_error"]) (zbT he) (by exact hr.mono (by decide)) (by exact rfl) (zaa (vv 5) zag)) (zgs (zaH (zje (List.mem_append_right _ (List.mem_singleton_self _)) T_all he.cls) rfl B.isinstance boot_isinstance (zaa (vv 5) (zaa (zaN (zaa (zdG C_NoRow rfl) (zaa (zdG C_NoPouch rfl) (zaa (zdG C_NoSize rfl) zag)))) zag))))) zag)))))))
   zuF)))))
  (zek (VS.v0 (zba (VW.vt (zfe (zay (o_ne hr.units) (zaD (vv 2) zab (fun _ _=>rfl)) (vv 0) (zao _)) (zez (zay (o_ne hr.units) (zaD (vv 2) zab (fun _ _=>rfl)) (vv 1) (zao _)))))
   (zai (zar zfk))
   zaw))
  (zek (VS.v0 (zba (zay zwp (vv 3) zfk (zao _))
   (zai (zar (za0 false (zaa zfh (zaa (zeH znN rfl B.int PyProof.Rows.boot_int (zaa (zcW zrU (vv 4) zgk (zao _)) zag)) zag)))))
   zaw))
  (zek (VS.v0 (zba (VW.vt (zfe (zfH (zaH zrD rfl B.isinstance boot_isinstance (zaa (zaD (vv 3) zab (fun _ _=>rfl)) (zaa (zuQ rfl B.bool PyProof.Rows.boot_bool) zag)))) (zez (zfH (zaD (vv 3) zab (fun _ _=>rfl))))))
   (zai (zar zfk))
   zaw))
  (VSs.v0 (zai (zar (zbJ false (vv 3) zcp (zco zab))))))))))))
theorem zfT:zaz ["_law_script", "_law_row_here", "_law_pouch_here", "_law_bad_row", "_law_bad", "_law_k", "_law_cell_here", "_law_due_here", "_law_turn"] ["_law_script"] (zae zj6):=⟨rfl,rfl,rfl,by decide +kernel,rfl,by decide +kernel,by decide +kernel⟩
theorem zwD {f:Addr} {fd:FuncData} (B:Blt mg) (F:Fun K "law" "law" zj6 f fd) (zes:DefV P w K mg base "_law_asked" 6 ["_law_row_here", "_law_pouch_here"] zbO) (zbQ:DefV P w K mg base "_law_cell" 2 ["_law_script", "_law_k"] zbq) (zhl:DefV P w K mg base "_law_due" 3 ["_law_row_here", "_law_pouch_here"] zd2) (zaM:DefV P w K mg base "_law_mix" 1 ["_law_cell_here", "_law_k"] zaQ) (zf2:DefV P w K mg base "_law_pouch" 3 ["_law_row_here", "_law_cell_here"] zer) (zcq:DefV P w K mg base "_law_pouch_spoiled" 2 ["_law_pouch_here", "_law_cell_here"] zbH) (zhB:DefV P w K mg base "_law_row" 3 ["_law_script", "_law_start", "_law_most"] zc7) (zc3:DefV P w K mg base "_law_row_spoiled" 1 ["_law_row_here", "_law_cell_here"] zbw):FnOk P w K mg base (CXE P w) 7 f fd ["_law_script"] (spV K 1 zlh):=by
 refine zsl F zfT (fun f cdv A outer s H E hr=>?_)
 exact (zaf (zav (i:=1) zfT.nd rfl (Or.inl rfl) (zaJ zah zhB (hr.mono (by decide)) rfl (zaa (vv 0) (zaa zab (zaa zab zag)))))
  (zaf (zav (i:=2) zfT.nd rfl (Or.inl rfl) (zaJ zah zf2 (hr.mono (by decide)) rfl (zaa (vv 1) (zaa (zaJ zah zbQ (hr.mono (by decide)) rfl (zaa (vv 0) (zaa zab zag))) zag))))
  (zaf (zav (i:=3) zfT.nd rfl (Or.inl rfl) (vv 1))
  (zaf (zav (i:=4) zfT.nd rfl (Or.inl rfl) (vv 2))
  (zaf (zdL zah.passes rfl (zf1 rfl B.range (zaa (zaj (zaT false) zab (zaj zbm (zaJ zah zbQ (hr.mono (by decide)) rfl (zaa (vv 0) (zaa zab zag))) zab)) zag)) (zam (i:=5) zfT.nd rfl (Or.inl rfl))
   (zaf (zav (i:=6) zfT.nd rfl (Or.inl rfl) (zaJ zah zaM (hr.mono (by decide)) rfl (zaa (zaJ zah zbQ (hr.mono (by decide)) rfl (zaa (vv 0) (zaa zab zag))) (zaa (zaj (zaT false) zab (vv 5)) zag))))
   (zai (zba (zay (o_eq hr.units) (zaj zbm (vv 6) zab) zab (zao _))
    (zai (zav (i:=3) zfT.nd rfl (Or.inl rfl) (zaJ zah zc3 (hr.mono (by decide)) rfl (zaa (vv 3) (zaa (zaj zd0 (vv 6) zab) zag)))))
    (zai (zav (i:=4) zfT.nd rfl (Or.inl rfl) (zaJ zah zcq (hr.mono (by decide)) rfl (zaa (vv 4) (zaa (zaj zd0 (vv 6) zab) zag)))))))))
  (zaf (zav (i:=7) zfT.nd rfl (Or.inl rfl) (zaJ zah zhl (hr.mono (by decide)) rfl (zaa (vv 3) (zaa (vv 4) zag))))
  (zaf (zdL zah.passes rfl (zf1 rfl B.range (zaa zab zag)) (zam (i:=8) zfT.nd rfl (Or.inl rfl))
   (zai (zba (VW.vt (zfe (zay (o_ne hr.units) (zaJ zah zes (hr.mono (by decide)) rfl (zaa (vv 3) (zaa (vv 4) zag))) (vv 7) (zao _)) (zez (zay (o_ne hr.units) (zaJ zah zes (hr.mono (by decide)) rfl (zaa (vv 1) (zaa (vv 2) zag))) (za0 false (zaa zfh (zaa zab zag))) (zao _)))))
    (zai (zar zgk))
    zaw)))
  (zai (zar zgk)))))))))
end
theorem all_mk {l:PySem.W.OpenLaw} {w:World} {K:PySem.W.Frag} {h:Heap} {mg:Str→Option Value} {fa f0 f1 f2 f3 f4 f5 f6 f7 f8 f9 f10 f11 f12 f13 f14 f15 f16 f17 f18 f19 f20 f21 f22 f23 f24 f25 f26 f27 f28 f29 f30 f31 f32 f33 f34 f35 f36 f37:Addr} (X:K.In h) (G:h.Ns mainGlobals mg) (hfa:mg "law" = some (.ref fa))
  {od0 an0 od1 an1 od2 an2 od3 an3 od4 an4 od5 an5 od6 an6 od7 an7 od8 an8 od9 an9 od10 an10 od11 an11 od12 an12 od13 an13 od14 an14 od15 an15 od16 an16 od17 an17 od18 an18 od19 an19 od20 an20 od21 an21 od22 an22 od23 an23 od24 an24 od25 an25 od26 an26 od27 an27 od28 an28 od29 an29 od30 an30 od31 an31 od32 an32 od33 an33 od34 an34 od35 an35 od36 an36 od37 an37:Option Addr} {sl0 sl1 sl2 sl3 sl4 sl5 sl6 sl7 sl8 sl9 sl10 sl11 sl12 sl13 sl14 sl15 sl16 sl17 sl18 sl19 sl20 sl21 sl22 sl23 sl24 sl25 sl26 sl27 sl28 sl29 sl30 sl31 sl32 sl33 sl34 sl35 sl36 sl37:Array (Option Value)} {oc0 kV0 dc0 pm0 cd0 ct0 oc1 kV1 dc1 pm1 cd1 ct1 oc2 kV2 dc2 pm2 cd2 ct2 oc3 kV3 dc3 pm3 cd3 ct3 oc4 kV4 dc4 pm4 cd4 ct4 oc5 kV5 dc5 pm5 cd5 ct5 oc6 kV6 dc6 pm6 cd6 ct6 oc7 kV7 dc7 pm7 cd7 ct7 oc8 kV8 dc8 pm8 cd8 ct8 oc9 kV9 dc9 pm9 cd9 ct9 oc10 kV10 dc10 pm10 cd10 ct10 oc11 kV11 dc11 pm11 cd11 ct11 oc12 kV12 dc12 pm12 cd12 ct12 oc13 kV13 dc13 pm13 cd13 ct13 oc14 kV14 dc14 pm14 cd14 ct14 oc15 kV15 dc15 pm15 cd15 ct15 oc16 kV16 dc16 pm16 cd16 ct16 oc17 kV17 dc17 pm17 cd17 ct17 oc18 kV18 dc18 pm18 cd18 ct18 oc19 kV19 dc19 pm19 cd19 ct19 oc20 kV20 dc20 pm20 cd20 ct20 oc21 kV21 dc21 pm21 cd21 ct21 oc22 kV22 dc22 pm22 cd22 ct22 oc23 kV23 dc23 pm23 cd23 ct23 oc24 kV24 dc24 pm24 cd24 ct24 oc25 kV25 dc25 pm25 cd25 ct25 oc26 kV26 dc26 pm26 cd26 ct26 oc27 kV27 dc27 pm27 cd27 ct27 oc28 kV28 dc28 pm28 cd28 ct28 oc29 kV29 dc29 pm29 cd29 ct29 oc30 kV30 dc30 pm30 cd30 ct30 oc31 kV31 dc31 pm31 cd31 ct31 oc32 kV32 dc32 pm32 cd32 ct32 oc33 kV33 dc33 pm33 cd33 ct33 oc34 kV34 dc34 pm34 cd34 ct34 oc35 kV35 dc35 pm35 cd35 ct35 oc36 kV36 dc36 pm36 cd36 ct36 oc37 kV37 dc37 pm37 cd37 ct37:Value}
  (a0:PySem.W.nsIn K mainGlobals "look_pouch" = some (some (.ref f0))) (l0:K.lookup f0=some ⟨oc0,od0, .func (PySem.W.fnOf "look_pouch" "look_pouch" (zax zcI) (zap zcI) (zae zcI) .none kV0 dc0 pm0 an0 cd0 ct0),sl0⟩) (c0:PySem.W.codeIn K cd0 "look_pouch" = true) (k0:PySem.W.keepIn K (.ref f0)=true)
  (a1:PySem.W.nsIn K mainGlobals "good_head" = some (some (.ref f1))) (l1:K.lookup f1=some ⟨oc1,od1, .func (PySem.W.fnOf "good_head" "good_head" (zax zdv) (zap zdv) (zae zdv) .none kV1 dc1 pm1 an1 cd1 ct1),sl1⟩) (c1:PySem.W.codeIn K cd1 "good_head" = true) (k1:PySem.W.keepIn K (.ref f1)=true)
  (a2:PySem.W.nsIn K mainGlobals "good_entry" = some (some (.ref f2))) (l2:K.lookup f2=some ⟨oc2,od2, .func (PySem.W.fnOf "good_entry" "good_entry" (zax zcL) (zap zcL) (zae zcL) .none kV2 dc2 pm2 an2 cd2 ct2),sl2⟩) (c2:PySem.W.codeIn K cd2 "good_entry" = true) (k2:PySem.W.keepIn K (.ref f2)=true)
  (a3:PySem.W.nsIn K mainGlobals "stands_at" = some (some (.ref f3))) (l3:K.lookup f3=some ⟨oc3,od3, .func (PySem.W.fnOf "stands_at" "stands_at" (zax zdy) (zap zdy) (zae zdy) .none kV3 dc3 pm3 an3 cd3 ct3),sl3⟩) (c3:PySem.W.codeIn K cd3 "stands_at" = true) (k3:PySem.W.keepIn K (.ref f3)=true)
  (a4:PySem.W.nsIn K mainGlobals "good_alone" = some (some (.ref f4))) (l4:K.lookup f4=some ⟨oc4,od4, .func (PySem.W.fnOf "good_alone" "good_alone" (zax zcN) (zap zcN) (zae zcN) .none kV4 dc4 pm4 an4 cd4 ct4),sl4⟩) (c4:PySem.W.codeIn K cd4 "good_alone" = true) (k4:PySem.W.keepIn K (.ref f4)=true)
  (a5:PySem.W.nsIn K mainGlobals "good_beside" = some (some (.ref f5))) (l5:K.lookup f5=some ⟨oc5,od5, .func (PySem.W.fnOf "good_beside" "good_beside" (zax zcj) (zap zcj) (zae zcj) .none kV5 dc5 pm5 an5 cd5 ct5),sl5⟩) (c5:PySem.W.codeIn K cd5 "good_beside" = true) (k5:PySem.W.keepIn K (.ref f5)=true)
  (a6:PySem.W.nsIn K mainGlobals "near_enough" = some (some (.ref f6))) (l6:K.lookup f6=some ⟨oc6,od6, .func (PySem.W.fnOf "near_enough" "near_enough" (zax zch) (zap zch) (zae zch) .none kV6 dc6 pm6 an6 cd6 ct6),sl6⟩) (c6:PySem.W.codeIn K cd6 "near_enough" = true) (k6:PySem.W.keepIn K (.ref f6)=true)
  (a7:PySem.W.nsIn K mainGlobals "look_row" = some (some (.ref f7))) (l7:K.lookup f7=some ⟨oc7,od7, .func (PySem.W.fnOf "look_row" "look_row" (zax zd8) (zap zd8) (zae zd8) .none kV7 dc7 pm7 an7 cd7 ct7),sl7⟩) (c7:PySem.W.codeIn K cd7 "look_row" = true) (k7:PySem.W.keepIn K (.ref f7)=true)
  (a8:PySem.W.nsIn K mainGlobals "packed" = some (some (.ref f8))) (l8:K.lookup f8=some ⟨oc8,od8, .func (PySem.W.fnOf "packed" "packed" (zax zeV) (zap zeV) (zae zeV) .none kV8 dc8 pm8 an8 cd8 ct8),sl8⟩) (c8:PySem.W.codeIn K cd8 "packed" = true) (k8:PySem.W.keepIn K (.ref f8)=true)
  (a9:PySem.W.nsIn K mainGlobals "places_of" = some (some (.ref f9))) (l9:K.lookup f9=some ⟨oc9,od9, .func (PySem.W.fnOf "places_of" "places_of" (zax zdl) (zap zdl) (zae zdl) .none kV9 dc9 pm9 an9 cd9 ct9),sl9⟩) (c9:PySem.W.codeIn K cd9 "places_of" = true) (k9:PySem.W.keepIn K (.ref f9)=true)
  (a10:PySem.W.nsIn K mainGlobals "judge" = some (some (.ref f10))) (l10:K.lookup f10=some ⟨oc10,od10, .func (PySem.W.fnOf "judge" "judge" (zax zhH) (zap zhH) (zae zhH) .none kV10 dc10 pm10 an10 cd10 ct10),sl10⟩) (c10:PySem.W.codeIn K cd10 "judge" = true) (k10:PySem.W.keepIn K (.ref f10)=true)
  (a11:PySem.W.nsIn K mainGlobals "look_places" = some (some (.ref f11))) (l11:K.lookup f11=some ⟨oc11,od11, .func (PySem.W.fnOf "look_places" "look_places" (zax zcg) (zap zcg) (zae zcg) .none kV11 dc11 pm11 an11 cd11 ct11),sl11⟩) (c11:PySem.W.codeIn K cd11 "look_places" = true) (k11:PySem.W.keepIn K (.ref f11)=true)
  (a12:PySem.W.nsIn K mainGlobals "_law_mix" = some (some (.ref f12))) (l12:K.lookup f12=some ⟨oc12,od12, .func (PySem.W.fnOf "_law_mix" "_law_mix" (zax zd6) (zap zd6) (zae zd6) .none kV12 dc12 pm12 an12 cd12 ct12),sl12⟩) (c12:PySem.W.codeIn K cd12 "_law_mix" = true) (k12:PySem.W.keepIn K (.ref f12)=true)
  (a13:PySem.W.nsIn K mainGlobals "_law_cell" = some (some (.ref f13))) (l13:K.lookup f13=some ⟨oc13,od13, .func (PySem.W.fnOf "_law_cell" "_law_cell" (zax zdm) (zap zdm) (zae zdm) .none kV13 dc13 pm13 an13 cd13 ct13),sl13⟩) (c13:PySem.W.codeIn K cd13 "_law_cell" = true) (k13:PySem.W.keepIn K (.ref f13)=true)
  (a14:PySem.W.nsIn K mainGlobals "_law_number" = some (some (.ref f14))) (l14:K.lookup f14=some ⟨oc14,od14, .func (PySem.W.fnOf "_law_number" "_law_number" (zax zci) (zap zci) (zae zci) .none kV14 dc14 pm14 an14 cd14 ct14),sl14⟩) (c14:PySem.W.codeIn K cd14 "_law_number" = true) (k14:PySem.W.keepIn K (.ref f14)=true)
  (a15:PySem.W.nsIn K mainGlobals "_law_times" = some (some (.ref f15))) (l15:K.lookup f15=some ⟨oc15,od15, .func (PySem.W.fnOf "_law_times" "_law_times" (zax zcM) (zap zcM) (zae zcM) .none kV15 dc15 pm15 an15 cd15 ct15),sl15⟩) (c15:PySem.W.codeIn K cd15 "_law_times" = true) (k15:PySem.W.keepIn K (.ref f15)=true)
  (a16:PySem.W.nsIn K mainGlobals "_law_row" = some (some (.ref f16))) (l16:K.lookup f16=some ⟨oc16,od16, .func (PySem.W.fnOf "_law_row" "_law_row" (zax zd7) (zap zd7) (zae zd7) .none kV16 dc16 pm16 an16 cd16 ct16),sl16⟩) (c16:PySem.W.codeIn K cd16 "_law_row" = true) (k16:PySem.W.keepIn K (.ref f16)=true)
  (a17:PySem.W.nsIn K mainGlobals "_law_upto" = some (some (.ref f17))) (l17:K.lookup f17=some ⟨oc17,od17, .func (PySem.W.fnOf "_law_upto" "_law_upto" (zax zcD) (zap zcD) (zae zcD) .none kV17 dc17 pm17 an17 cd17 ct17),sl17⟩) (c17:PySem.W.codeIn K cd17 "_law_upto" = true) (k17:PySem.W.keepIn K (.ref f17)=true)
  (a18:PySem.W.nsIn K mainGlobals "_law_below" = some (some (.ref f18))) (l18:K.lookup f18=some ⟨oc18,od18, .func (PySem.W.fnOf "_law_below" "_law_below" (zax zb4) (zap zb4) (zae zb4) .none kV18 dc18 pm18 an18 cd18 ct18),sl18⟩) (c18:PySem.W.codeIn K cd18 "_law_below" = true) (k18:PySem.W.keepIn K (.ref f18)=true)
  (a19:PySem.W.nsIn K mainGlobals "_law_sorted" = some (some (.ref f19))) (l19:K.lookup f19=some ⟨oc19,od19, .func (PySem.W.fnOf "_law_sorted" "_law_sorted" (zax zcc) (zap zcc) (zae zcc) .none kV19 dc19 pm19 an19 cd19 ct19),sl19⟩) (c19:PySem.W.codeIn K cd19 "_law_sorted" = true) (k19:PySem.W.keepIn K (.ref f19)=true)
  (a20:PySem.W.nsIn K mainGlobals "_law_at" = some (some (.ref f20))) (l20:K.lookup f20=some ⟨oc20,od20, .func (PySem.W.fnOf "_law_at" "_law_at" (zax zeK) (zap zeK) (zae zeK) .none kV20 dc20 pm20 an20 cd20 ct20),sl20⟩) (c20:PySem.W.codeIn K cd20 "_law_at" = true) (k20:PySem.W.keepIn K (.ref f20)=true)
  (a21:PySem.W.nsIn K mainGlobals "_law_places" = some (some (.ref f21))) (l21:K.lookup f21=some ⟨oc21,od21, .func (PySem.W.fnOf "_law_places" "_law_places" (zax zcm) (zap zcm) (zae zcm) .none kV21 dc21 pm21 an21 cd21 ct21),sl21⟩) (c21:PySem.W.codeIn K cd21 "_law_places" = true) (k21:PySem.W.keepIn K (.ref f21)=true)
  (a22:PySem.W.nsIn K mainGlobals "_law_wide" = some (some (.ref f22))) (l22:K.lookup f22=some ⟨oc22,od22, .func (PySem.W.fnOf "_law_wide" "_law_wide" (zax zdx) (zap zdx) (zae zdx) .none kV22 dc22 pm22 an22 cd22 ct22),sl22⟩) (c22:PySem.W.codeIn K cd22 "_law_wide" = true) (k22:PySem.W.keepIn K (.ref f22)=true)
  (a23:PySem.W.nsIn K mainGlobals "_law_entries" = some (some (.ref f23))) (l23:K.lookup f23=some ⟨oc23,od23, .func (PySem.W.fnOf "_law_entries" "_law_entries" (zax zbk) (zap zbk) (zae zbk) .none kV23 dc23 pm23 an23 cd23 ct23),sl23⟩) (c23:PySem.W.codeIn K cd23 "_law_entries" = true) (k23:PySem.W.keepIn K (.ref f23)=true)
  (a24:PySem.W.nsIn K mainGlobals "_law_slack" = some (some (.ref f24))) (l24:K.lookup f24=some ⟨oc24,od24, .func (PySem.W.fnOf "_law_slack" "_law_slack" (zax zcU) (zap zcU) (zae zcU) .none kV24 dc24 pm24 an24 cd24 ct24),sl24⟩) (c24:PySem.W.codeIn K cd24 "_law_slack" = true) (k24:PySem.W.keepIn K (.ref f24)=true)
  (a25:PySem.W.nsIn K mainGlobals "_law_pouch" = some (some (.ref f25))) (l25:K.lookup f25=some ⟨oc25,od25, .func (PySem.W.fnOf "_law_pouch" "_law_pouch" (zax zb8) (zap zb8) (zae zb8) .none kV25 dc25 pm25 an25 cd25 ct25),sl25⟩) (c25:PySem.W.codeIn K cd25 "_law_pouch" = true) (k25:PySem.W.keepIn K (.ref f25)=true)
  (a26:PySem.W.nsIn K mainGlobals "_law_alone" = some (some (.ref f26))) (l26:K.lookup f26=some ⟨oc26,od26, .func (PySem.W.fnOf "_law_alone" "_law_alone" (zax zcO) (zap zcO) (zae zcO) .none kV26 dc26 pm26 an26 cd26 ct26),sl26⟩) (c26:PySem.W.codeIn K cd26 "_law_alone" = true) (k26:PySem.W.keepIn K (.ref f26)=true)
  (a27:PySem.W.nsIn K mainGlobals "_law_beside" = some (some (.ref f27))) (l27:K.lookup f27=some ⟨oc27,od27, .func (PySem.W.fnOf "_law_beside" "_law_beside" (zax zcl) (zap zcl) (zae zcl) .none kV27 dc27 pm27 an27 cd27 ct27),sl27⟩) (c27:PySem.W.codeIn K cd27 "_law_beside" = true) (k27:PySem.W.keepIn K (.ref f27)=true)
  (a28:PySem.W.nsIn K mainGlobals "_law_form" = some (some (.ref f28))) (l28:K.lookup f28=some ⟨oc28,od28, .func (PySem.W.fnOf "_law_form" "_law_form" (zax zdj) (zap zdj) (zae zdj) .none kV28 dc28 pm28 an28 cd28 ct28),sl28⟩) (c28:PySem.W.codeIn K cd28 "_law_form" = true) (k28:PySem.W.keepIn K (.ref f28)=true)
  (a29:PySem.W.nsIn K mainGlobals "_law_bad_run" = some (some (.ref f29))) (l29:K.lookup f29=some ⟨oc29,od29, .func (PySem.W.fnOf "_law_bad_run" "_law_bad_run" (zax zbX) (zap zbX) (zae zbX) .none kV29 dc29 pm29 an29 cd29 ct29),sl29⟩) (c29:PySem.W.codeIn K cd29 "_law_bad_run" = true) (k29:PySem.W.keepIn K (.ref f29)=true)
  (a30:PySem.W.nsIn K mainGlobals "_law_wrong" = some (some (.ref f30))) (l30:K.lookup f30=some ⟨oc30,od30, .func (PySem.W.fnOf "_law_wrong" "_law_wrong" (zax zcT) (zap zcT) (zae zcT) .none kV30 dc30 pm30 an30 cd30 ct30),sl30⟩) (c30:PySem.W.codeIn K cd30 "_law_wrong" = true) (k30:PySem.W.keepIn K (.ref f30)=true)
  (a31:PySem.W.nsIn K mainGlobals "_law_due" = some (some (.ref f31))) (l31:K.lookup f31=some ⟨oc31,od31, .func (PySem.W.fnOf "_law_due" "_law_due" (zax zdd) (zap zdd) (zae zdd) .none kV31 dc31 pm31 an31 cd31 ct31),sl31⟩) (c31:PySem.W.codeIn K cd31 "_law_due" = true) (k31:PySem.W.keepIn K (.ref f31)=true)
  (a32:PySem.W.nsIn K mainGlobals "_law_row_spoiled" = some (some (.ref f32))) (l32:K.lookup f32=some ⟨oc32,od32, .func (PySem.W.fnOf "_law_row_spoiled" "_law_row_spoiled" (zax zbb) (zap zbb) (zae zbb) .none kV32 dc32 pm32 an32 cd32 ct32),sl32⟩) (c32:PySem.W.codeIn K cd32 "_law_row_spoiled" = true) (k32:PySem.W.keepIn K (.ref f32)=true)
  (a33:PySem.W.nsIn K mainGlobals "_law_entry_spoiled" = some (some (.ref f33))) (l33:K.lookup f33=some ⟨oc33,od33, .func (PySem.W.fnOf "_law_entry_spoiled" "_law_entry_spoiled" (zax za2) (zap za2) (zae za2) .none kV33 dc33 pm33 an33 cd33 ct33),sl33⟩) (c33:PySem.W.codeIn K cd33 "_law_entry_spoiled" = true) (k33:PySem.W.keepIn K (.ref f33)=true)
  (a34:PySem.W.nsIn K mainGlobals "_law_pouch_spoiled" = some (some (.ref f34))) (l34:K.lookup f34=some ⟨oc34,od34, .func (PySem.W.fnOf "_law_pouch_spoiled" "_law_pouch_spoiled" (zax za3) (zap za3) (zae za3) .none kV34 dc34 pm34 an34 cd34 ct34),sl34⟩) (c34:PySem.W.codeIn K cd34 "_law_pouch_spoiled" = true) (k34:PySem.W.keepIn K (.ref f34)=true)
  (a35:PySem.W.nsIn K mainGlobals "_law_strange" = some (some (.ref f35))) (l35:K.lookup f35=some ⟨oc35,od35, .func (PySem.W.fnOf "_law_strange" "_law_strange" (zax zbW) (zap zbW) (zae zbW) .none kV35 dc35 pm35 an35 cd35 ct35),sl35⟩) (c35:PySem.W.codeIn K cd35 "_law_strange" = true) (k35:PySem.W.keepIn K (.ref f35)=true)
  (a36:PySem.W.nsIn K mainGlobals "_law_asked" = some (some (.ref f36))) (l36:K.lookup f36=some ⟨oc36,od36, .func (PySem.W.fnOf "_law_asked" "_law_asked" (zax zcJ) (zap zcJ) (zae zcJ) .none kV36 dc36 pm36 an36 cd36 ct36),sl36⟩) (c36:PySem.W.codeIn K cd36 "_law_asked" = true) (k36:PySem.W.keepIn K (.ref f36)=true)
  (a37:PySem.W.nsIn K mainGlobals "law" = some (some (.ref f37))) (l37:K.lookup f37=some ⟨oc37,od37, .func (PySem.W.fnOf "law" "law" (zax zj6) (zap zj6) (zae zj6) .none kV37 dc37 pm37 an37 cd37 ct37),sl37⟩) (c37:PySem.W.codeIn K cd37 "law" = true) (k37:PySem.W.keepIn K (.ref f37)=true)
  (zfu:PySem.W.nsIn K mainGlobals "ValueError" = some none)
  (zpF:PySem.W.nsIn K mainGlobals "bool" = some none)
  (zgL:PySem.W.nsIn K mainGlobals "enumerate" = some none)
  (zt9:PySem.W.nsIn K mainGlobals "int" = some none)
  (zfB:PySem.W.nsIn K mainGlobals "isinstance" = some none)
  (ztU:PySem.W.nsIn K mainGlobals "len" = some none)
  (zpw:PySem.W.nsIn K mainGlobals "list" = some none)
  (zs0:PySem.W.nsIn K mainGlobals "max" = some none)
  (zsG:PySem.W.nsIn K mainGlobals "min" = some none)
  (zme:PySem.W.nsIn K mainGlobals "range" = some none)
  (zhR:PySem.W.nsIn K mainGlobals "reversed" = some none)
  (zkP:PySem.W.nsIn K mainGlobals "sorted" = some none)
  (ztn:PySem.W.nsIn K mainGlobals "sum" = some none)
  {zpi:Tok} (zjh:PySem.W.nsIn K mainGlobals "LONGEST" = some (some (.int 1000000000 zpi)))
  {zaL:Addr} (zbd:PySem.W.nsIn K mainGlobals "RankError" = some (some (.ref zaL)))
  {zaY:Addr} (zbs:PySem.W.nsIn K mainGlobals "NoRow" = some (some (.ref zaY)))
  {zbC:Addr} (zc8:PySem.W.nsIn K mainGlobals "NoPlace" = some (some (.ref zbC)))
  {zaE:Addr} (zaS:PySem.W.nsIn K mainGlobals "NoPouch" = some (some (.ref zaE)))
  {zaU:Addr} (za9:PySem.W.nsIn K mainGlobals "NoSize" = some (some (.ref zaU)))
  {zaZ:Addr} (zbt:PySem.W.nsIn K mainGlobals "Wrong" = some (some (.ref zaZ)))
  {zbA:Addr} (zc5:PySem.W.nsIn K mainGlobals "NoTimes" = some (some (.ref zbA)))
  {zb1:Addr} (zdY:PySem.W.nsIn K mainGlobals "Unlike" = some (some (.ref zb1)))
  {zb0:Addr} (zd4:PySem.W.nsIn K mainGlobals "NoText" = some (some (.ref zb0)))
  {nm_RankError q_RankError N_RankError bs_RankError bm_RankError hdct_RankError sn_RankError zkF ab_RankError col_RankError dd_RankError k0_RankError k1_RankError k2_RankError k3_RankError k5_RankError} (o_RankError:K.lookup zaL=some (excClassObj nm_RankError q_RankError zaL N_RankError bs_RankError bm_RankError hdct_RankError sn_RankError zkF ab_RankError col_RankError dd_RankError k0_RankError k1_RankError k2_RankError k3_RankError k5_RankError "ValueError.__new__"))
  (zf0:PySem.W.findIn K (.ref zaL) "__getattribute__" = some (some (.builtin "BaseException.__getattribute__"))) (zfK:PySem.W.findIn K (.ref zaL) "__getattr__" = some none) (zfX:PySem.W.findIn K (.ref zaL) "__class__" = some (some (.builtin "object.__class__"))) (zfr:PySem.W.subIn K (.ref zaL) (.type "BaseException")=some true) (zfO:PySem.W.subIn K (.ref zaL) (.type "object")=some true)
  {nm_NoRow q_NoRow N_NoRow bs_NoRow bm_NoRow hdct_NoRow sn_NoRow zpv ab_NoRow col_NoRow dd_NoRow k0_NoRow k1_NoRow k2_NoRow k3_NoRow k5_NoRow} (o_NoRow:K.lookup zaY=some (excClassObj nm_NoRow q_NoRow zaY N_NoRow bs_NoRow bm_NoRow hdct_NoRow sn_NoRow zpv ab_NoRow col_NoRow dd_NoRow k0_NoRow k1_NoRow k2_NoRow k3_NoRow k5_NoRow "ValueError.__new__"))
  (zie:PySem.W.findIn K (.ref zaY) "__getattribute__" = some (some (.builtin "BaseException.__getattribute__"))) (zii:PySem.W.findIn K (.ref zaY) "__getattr__" = some none) (zkT:PySem.W.findIn K (.ref zaY) "__class__" = some (some (.builtin "object.__class__"))) (zir:PySem.W.subIn K (.ref zaY) (.type "BaseException")=some true) (zkz:PySem.W.subIn K (.ref zaY) (.type "object")=some true)
  {nm_NoPlace q_NoPlace N_NoPlace bs_NoPlace bm_NoPlace hdct_NoPlace sn_NoPlace zm3 ab_NoPlace col_NoPlace dd_NoPlace k0_NoPlace k1_NoPlace k2_NoPlace k3_NoPlace k5_NoPlace} (o_NoPlace:K.lookup zbC=some (excClassObj nm_NoPlace q_NoPlace zbC N_NoPlace bs_NoPlace bm_NoPlace hdct_NoPlace sn_NoPlace zm3 ab_NoPlace col_NoPlace dd_NoPlace k0_NoPlace k1_NoPlace k2_NoPlace k3_NoPlace k5_NoPlace "ValueError.__new__"))
  (zhG:PySem.W.findIn K (.ref zbC) "__getattribute__" = some (some (.builtin "BaseException.__getattribute__"))) (zhP:PySem.W.findIn K (.ref zbC) "__getattr__" = some none) (zhv:PySem.W.findIn K (.ref zbC) "__class__" = some (some (.builtin "object.__class__"))) (zhu:PySem.W.subIn K (.ref zbC) (.type "BaseException")=some true) (zhf:PySem.W.subIn K (.ref zbC) (.type "object")=some true)
  {nm_NoPouch q_NoPouch N_NoPouch bs_NoPouch bm_NoPouch hdct_NoPouch sn_NoPouch zmM ab_NoPouch col_NoPouch dd_NoPouch k0_NoPouch k1_NoPouch k2_NoPouch k3_NoPouch k5_NoPouch} (o_NoPouch:K.lookup zaE=some (excClassObj nm_NoPouch q_NoPouch zaE N_NoPouch bs_NoPouch bm_NoPouch hdct_NoPouch sn_NoPouch zmM ab_NoPouch col_NoPouch dd_NoPouch k0_NoPouch k1_NoPouch k2_NoPouch k3_NoPouch k5_NoPouch "ValueError.__new__"))
  (zgf:PySem.W.findIn K (.ref zaE) "__getattribute__" = some (some (.builtin "BaseException.__getattribute__"))) (zgj:PySem.W.findIn K (.ref zaE) "__getattr__" = some none) (zhO:PySem.W.findIn K (.ref zaE) "__class__" = some (some (.builtin "object.__class__"))) (zgi:PySem.W.subIn K (.ref zaE) (.type "BaseException")=some true) (zhg:PySem.W.subIn K (.ref zaE) (.type "object")=some true)
  {nm_NoSize q_NoSize N_NoSize bs_NoSize bm_NoSize hdct_NoSize sn_NoSize zn1 ab_NoSize col_NoSize dd_NoSize k0_NoSize k1_NoSize k2_NoSize k3_NoSize k5_NoSize} (o_NoSize:K.lookup zaU=some (excClassObj nm_NoSize q_NoSize zaU N_NoSize bs_NoSize bm_NoSize hdct_NoSize sn_NoSize zn1 ab_NoSize col_NoSize dd_NoSize k0_NoSize k1_NoSize k2_NoSize k3_NoSize k5_NoSize "ValueError.__new__"))
  (ziy:PySem.W.findIn K (.ref zaU) "__getattribute__" = some (some (.builtin "BaseException.__getattribute__"))) (zi8:PySem.W.findIn K (.ref zaU) "__getattr__" = some none) (zi1:PySem.W.findIn K (.ref zaU) "__class__" = some (some (.builtin "object.__class__"))) (zjb:PySem.W.subIn K (.ref zaU) (.type "BaseException")=some true) (zi5:PySem.W.subIn K (.ref zaU) (.type "object")=some true)
  {nm_Wrong q_Wrong N_Wrong bs_Wrong bm_Wrong hdct_Wrong sn_Wrong zp4 ab_Wrong col_Wrong dd_Wrong k0_Wrong k1_Wrong k2_Wrong k3_Wrong k5_Wrong} (o_Wrong:K.lookup zaZ=some (excClassObj nm_Wrong q_Wrong zaZ N_Wrong bs_Wrong bm_Wrong hdct_Wrong sn_Wrong zp4 ab_Wrong col_Wrong dd_Wrong k0_Wrong k1_Wrong k2_Wrong k3_Wrong k5_Wrong "ValueError.__new__"))
  (ziv:PySem.W.findIn K (.ref zaZ) "__getattribute__" = some (some (.builtin "BaseException.__getattribute__"))) (zh9:PySem.W.findIn K (.ref zaZ) "__getattr__" = some none) (zj2:PySem.W.findIn K (.ref zaZ) "__class__" = some (some (.builtin "object.__class__"))) (zij:PySem.W.subIn K (.ref zaZ) (.type "BaseException")=some true) (zkn:PySem.W.subIn K (.ref zaZ) (.type "object")=some true)
  {nm_NoTimes q_NoTimes N_NoTimes bs_NoTimes bm_NoTimes hdct_NoTimes sn_NoTimes zmZ ab_NoTimes col_NoTimes dd_NoTimes k0_NoTimes k1_NoTimes k2_NoTimes k3_NoTimes k5_NoTimes} (o_NoTimes:K.lookup zbA=some (excClassObj nm_NoTimes q_NoTimes zbA N_NoTimes bs_NoTimes bm_NoTimes hdct_NoTimes sn_NoTimes zmZ ab_NoTimes col_NoTimes dd_NoTimes k0_NoTimes k1_NoTimes k2_NoTimes k3_NoTimes k5_NoTimes "ValueError.__new__"))
  (zhi:PySem.W.findIn K (.ref zbA) "__getattribute__" = some (some (.builtin "BaseException.__getattribute__"))) (zhw:PySem.W.findIn K (.ref zbA) "__getattr__" = some none) (zhe:PySem.W.findIn K (.ref zbA) "__class__" = some (some (.builtin "object.__class__"))) (zhc:PySem.W.subIn K (.ref zbA) (.type "BaseException")=some true) (zhF:PySem.W.subIn K (.ref zbA) (.type "object")=some true)
  {nm_Unlike q_Unlike N_Unlike bs_Unlike bm_Unlike hdct_Unlike sn_Unlike zol ab_Unlike col_Unlike dd_Unlike k0_Unlike k1_Unlike k2_Unlike k3_Unlike k5_Unlike} (o_Unlike:K.lookup zb1=some (excClassObj nm_Unlike q_Unlike zb1 N_Unlike bs_Unlike bm_Unlike hdct_Unlike sn_Unlike zol ab_Unlike col_Unlike dd_Unlike k0_Unlike k1_Unlike k2_Unlike k3_Unlike k5_Unlike "ValueError.__new__"))
  (ziI:PySem.W.findIn K (.ref zb1) "__getattribute__" = some (some (.builtin "BaseException.__getattribute__"))) (ziw:PySem.W.findIn K (.ref zb1) "__getattr__" = some none) (ziH:PySem.W.findIn K (.ref zb1) "__class__" = some (some (.builtin "object.__class__"))) (ziO:PySem.W.subIn K (.ref zb1) (.type "BaseException")=some true) (ziC:PySem.W.subIn K (.ref zb1) (.type "object")=some true)
  {nm_NoText q_NoText N_NoText bs_NoText bm_NoText hdct_NoText sn_NoText zot ab_NoText col_NoText dd_NoText k0_NoText k1_NoText k2_NoText k3_NoText k5_NoText} (o_NoText:K.lookup zb0=some (excClassObj nm_NoText q_NoText zb0 N_NoText bs_NoText bm_NoText hdct_NoText sn_NoText zot ab_NoText col_NoText dd_NoText k0_NoText k1_NoText k2_NoText k3_NoText k5_NoText "ValueError.__new__"))
  (ziL:PySem.W.findIn K (.ref zb0) "__getattribute__" = some (some (.builtin "BaseException.__getattribute__"))) (ziT:PySem.W.findIn K (.ref zb0) "__getattr__" = some none) (ziD:PySem.W.findIn K (.ref zb0) "__class__" = some (some (.builtin "object.__class__"))) (ziP:PySem.W.subIn K (.ref zb0) (.type "BaseException")=some true) (zi0:PySem.W.subIn K (.ref zb0) (.type "object")=some true)
  (zhn:PySem.W.excIn K zaU bmVE "ValueError.__new__" = true)
  {zgb:Addr} {odi_NoRow ani_NoRow:Option Addr} {sli_NoRow:Array (Option Value)} {oci_NoRow kVi_NoRow dci_NoRow pmi_NoRow cdi_NoRow cti_NoRow:Value} (fd_NoRow:PySem.W.findIn K (.ref zaY) "__init__" = some (some (.ref zgb))) (zj0:K.lookup zgb=some ⟨oci_NoRow,odi_NoRow, .func (PySem.W.fnOf "__init__" "NoRow.__init__" (zax zf5) (zap zf5) (zae zf5) .none kVi_NoRow dci_NoRow pmi_NoRow ani_NoRow cdi_NoRow cti_NoRow),sli_NoRow⟩) (zjV:PySem.W.codeIn K cdi_NoRow "NoRow.__init__" = true) (zkH:PySem.W.keepIn K (.ref zgb)=true)
  (zkk:PySem.W.findIn K (.ref zaY) "__setattr__" = some (some (.builtin "object.__setattr__"))) (zh7:PySem.W.findIn K (.ref zaY) "at" = some none) (zke:zl6 K zaY zgb=true) (zkd:PySem.W.typeIn K (.ref zgb)=some (.type "function")) (zkx:(PySem.W.clsIn K zaY).any (·.hasDict)=true)
  {zd9:Addr} {odi_NoPouch ani_NoPouch:Option Addr} {sli_NoPouch:Array (Option Value)} {oci_NoPouch kVi_NoPouch dci_NoPouch pmi_NoPouch cdi_NoPouch cti_NoPouch:Value} (fd_NoPouch:PySem.W.findIn K (.ref zaE) "__init__" = some (some (.ref zd9))) (zhA:K.lookup zd9=some ⟨oci_NoPouch,odi_NoPouch, .func (PySem.W.fnOf "__init__" "NoPouch.__init__" (zax zd5) (zap zd5) (zae zd5) .none kVi_NoPouch dci_NoPouch pmi_NoPouch ani_NoPouch cdi_NoPouch cti_NoPouch),sli_NoPouch⟩) (zhT:PySem.W.codeIn K cdi_NoPouch "NoPouch.__init__" = true) (zhm:PySem.W.keepIn K (.ref zd9)=true)
  (zhN:PySem.W.findIn K (.ref zaE) "__setattr__" = some (some (.builtin "object.__setattr__"))) (zgh:PySem.W.findIn K (.ref zaE) "at" = some none) (zhr:zl6 K zaE zd9=true) (zhy:PySem.W.typeIn K (.ref zd9)=some (.type "function")) (zhC:(PySem.W.clsIn K zaE).any (·.hasDict)=true)
  {zf8:Addr} {odi_Wrong ani_Wrong:Option Addr} {sli_Wrong:Array (Option Value)} {oci_Wrong kVi_Wrong dci_Wrong pmi_Wrong cdi_Wrong cti_Wrong:Value} (fd_Wrong:PySem.W.findIn K (.ref zaZ) "__init__" = some (some (.ref zf8))) (zkD:K.lookup zf8=some ⟨oci_Wrong,odi_Wrong, .func (PySem.W.fnOf "__init__" "Wrong.__init__" (zax zf4) (zap zf4) (zae zf4) .none kVi_Wrong dci_Wrong pmi_Wrong ani_Wrong cdi_Wrong cti_Wrong),sli_Wrong⟩) (zjY:PySem.W.codeIn K cdi_Wrong "Wrong.__init__" = true) (zjS:PySem.W.keepIn K (.ref zf8)=true)
  (zkB:PySem.W.findIn K (.ref zaZ) "__setattr__" = some (some (.builtin "object.__setattr__"))) (zh6:PySem.W.findIn K (.ref zaZ) "at" = some none) (zjX:zl6 K zaZ zf8=true) (zkJ:PySem.W.typeIn K (.ref zf8)=some (.type "function")) (zkc:(PySem.W.clsIn K zaZ).any (·.hasDict)=true)
  (rd_b:PySem.W.readsIn K zaL (.type "type")=true) (fc_b:PySem.W.findCls K (.ref zaL) (.type "type") "__init__" = some (.val (.builtin "ValueError.__init__"))) (sg_b:PySem.W.specialIn K (.ref zaL) "__getattribute__" = some (some (.builtin "type.__getattribute__")))
  (zhq:PySem.W.subIn K (.ref zaE) (.type "ValueError")=some true)
  (zcb:PySem.W.subIn K (.ref zaE) (.ref zaL)=some true)
  (zdr:PySem.W.subIn K (.ref zaE) (.ref zaY)=some false)
  (zcG:PySem.W.subIn K (.ref zaE) (.ref zbC)=some false)
  (zcE:PySem.W.subIn K (.ref zaE) (.ref zaE)=some true)
  (zc4:PySem.W.subIn K (.ref zaE) (.ref zaU)=some false)
  (zdg:PySem.W.subIn K (.ref zaE) (.ref zaZ)=some false)
  (zcC:PySem.W.subIn K (.ref zaE) (.ref zbA)=some false)
  (zc9:PySem.W.subIn K (.ref zaE) (.ref zb1)=some false)
  (zc0:PySem.W.subIn K (.ref zaE) (.ref zb0)=some false)
  (zi4:PySem.W.subIn K (.ref zaU) (.type "ValueError")=some true)
  (zcs:PySem.W.subIn K (.ref zaU) (.ref zaL)=some true)
  (zdT:PySem.W.subIn K (.ref zaU) (.ref zaY)=some false)
  (zda:PySem.W.subIn K (.ref zaU) (.ref zbC)=some false)
  (zc2:PySem.W.subIn K (.ref zaU) (.ref zaE)=some false)
  (zdt:PySem.W.subIn K (.ref zaU) (.ref zaU)=some true)
  (zdP:PySem.W.subIn K (.ref zaU) (.ref zaZ)=some false)
  (zcZ:PySem.W.subIn K (.ref zaU) (.ref zbA)=some false)
  (zdf:PySem.W.subIn K (.ref zaU) (.ref zb1)=some false)
  (zdq:PySem.W.subIn K (.ref zaU) (.ref zb0)=some false)
  (zkW:PySem.W.subIn K (.ref zaY) (.type "ValueError")=some true)
  (zcH:PySem.W.subIn K (.ref zaY) (.ref zaL)=some true)
  (zeh:PySem.W.subIn K (.ref zaY) (.ref zaY)=some true)
  (zdw:PySem.W.subIn K (.ref zaY) (.ref zbC)=some false)
  (zdo:PySem.W.subIn K (.ref zaY) (.ref zaE)=some false)
  (zdN:PySem.W.subIn K (.ref zaY) (.ref zaU)=some false)
  (zea:PySem.W.subIn K (.ref zaY) (.ref zaZ)=some false)
  (zdn:PySem.W.subIn K (.ref zaY) (.ref zbA)=some false)
  (zdS:PySem.W.subIn K (.ref zaY) (.ref zb1)=some false)
  (zdO:PySem.W.subIn K (.ref zaY) (.ref zb0)=some false)
  (zjT:PySem.W.subIn K (.ref zaZ) (.type "ValueError")=some true)
  (zcA:PySem.W.subIn K (.ref zaZ) (.ref zaL)=some true)
  (zeb:PySem.W.subIn K (.ref zaZ) (.ref zaY)=some false)
  (zdh:PySem.W.subIn K (.ref zaZ) (.ref zbC)=some false)
  (zdu:PySem.W.subIn K (.ref zaZ) (.ref zaE)=some false)
  (zdM:PySem.W.subIn K (.ref zaZ) (.ref zaU)=some false)
  (zel:PySem.W.subIn K (.ref zaZ) (.ref zaZ)=some true)
  (zdp:PySem.W.subIn K (.ref zaZ) (.ref zbA)=some false)
  (zdU:PySem.W.subIn K (.ref zaZ) (.ref zb1)=some false)
  (zdQ:PySem.W.subIn K (.ref zaZ) (.ref zb0)=some false)
  : ∃ fd:FuncData,(∀ (s:Shared) (v:Value),BindsTo s fd ⟨[v],[]⟩ [("_law_script",v)])∧∀ base:Heap,K.In base→base.Ns mainGlobals mg→FnOk l.prog w K mg base CX0 7 fa fd ["_law_script"] (zrO K):=by
 have e:=hfa.symm.trans (PySem.W.mg_of X G a37)
 cases e
 have zlj:=PySem.W.mg_none_of X G zfu
 have y_bool:=PySem.W.mg_none_of X G zpF
 have zmk:=PySem.W.mg_none_of X G zgL
 have zv7:=PySem.W.mg_none_of X G zt9
 have zl1:=PySem.W.mg_none_of X G zfB
 have zwc:=PySem.W.mg_none_of X G ztU
 have zvx:=PySem.W.mg_none_of X G zpw
 have zwj:=PySem.W.mg_none_of X G zs0
 have zwm:=PySem.W.mg_none_of X G zsG
 have ztu:=PySem.W.mg_none_of X G zme
 have zoo:=PySem.W.mg_none_of X G zhR
 have zqW:=PySem.W.mg_none_of X G zkP
 have zwK:=PySem.W.mg_none_of X G ztn
 have B:Blt mg:=⟨zlj,y_bool,zmk,zv7,zl1,zwc,zvx,zwj,zwm,ztu,zoo,zqW,zwK⟩
 have zjf:∃ t,mg "LONGEST" = some (.int 1000000000 t):=⟨_,PySem.W.mg_of X G zjh⟩
 have zhY:XC K zaL:=⟨⟨_,_,_,_,_,_,_,_,_,_,_,_,_,_,_,_,o_RankError⟩,zf0,zfK,zfX,zfr,zfO⟩
 have C_RankError:ClsN K mg "RankError":=⟨zaL,zhY,PySem.W.mg_of X G zbd,zbd⟩
 have znP:XC K zaY:=⟨⟨_,_,_,_,_,_,_,_,_,_,_,_,_,_,_,_,o_NoRow⟩,zie,zii,zkT,zir,zkz⟩
 have C_NoRow:ClsN K mg "NoRow":=⟨zaY,znP,PySem.W.mg_of X G zbs,zbs⟩
 have zjE:XC K zbC:=⟨⟨_,_,_,_,_,_,_,_,_,_,_,_,_,_,_,_,o_NoPlace⟩,zhG,zhP,zhv,zhu,zhf⟩
 have C_NoPlace:ClsN K mg "NoPlace":=⟨zbC,zjE,PySem.W.mg_of X G zc8,zc8⟩
 have zjM:XC K zaE:=⟨⟨_,_,_,_,_,_,_,_,_,_,_,_,_,_,_,_,o_NoPouch⟩,zgf,zgj,zhO,zgi,zhg⟩
 have C_NoPouch:ClsN K mg "NoPouch":=⟨zaE,zjM,PySem.W.mg_of X G zaS,zaS⟩
 have zly:XC K zaU:=⟨⟨_,_,_,_,_,_,_,_,_,_,_,_,_,_,_,_,o_NoSize⟩,ziy,zi8,zi1,zjb,zi5⟩
 have C_NoSize:ClsN K mg "NoSize":=⟨zaU,zly,PySem.W.mg_of X G za9,za9⟩
 have znI:XC K zaZ:=⟨⟨_,_,_,_,_,_,_,_,_,_,_,_,_,_,_,_,o_Wrong⟩,ziv,zh9,zj2,zij,zkn⟩
 have C_Wrong:ClsN K mg "Wrong":=⟨zaZ,znI,PySem.W.mg_of X G zbt,zbt⟩
 have zjC:XC K zbA:=⟨⟨_,_,_,_,_,_,_,_,_,_,_,_,_,_,_,_,o_NoTimes⟩,zhi,zhw,zhe,zhc,zhF⟩
 have C_NoTimes:ClsN K mg "NoTimes":=⟨zbA,zjC,PySem.W.mg_of X G zc5,zc5⟩
 have zk5:XC K zb1:=⟨⟨_,_,_,_,_,_,_,_,_,_,_,_,_,_,_,_,o_Unlike⟩,ziI,ziw,ziH,ziO,ziC⟩
 have C_Unlike:ClsN K mg "Unlike":=⟨zb1,zk5,PySem.W.mg_of X G zdY,zdY⟩
 have zk2:XC K zb0:=⟨⟨_,_,_,_,_,_,_,_,_,_,_,_,_,_,_,_,o_NoText⟩,ziL,ziT,ziD,ziP,zi0⟩
 have C_NoText:ClsN K mg "NoText":=⟨zb0,zk2,PySem.W.mg_of X G zd4,zd4⟩
 have O_NoSize:OwnC K mg "NoSize":=⟨zaU,⟨zhn⟩,PySem.W.mg_of X G za9,za9⟩
 have T_all:XTab K ["NoPouch", "NoSize", "NoRow", "Wrong"] ["RankError", "NoRow", "NoPlace", "NoPouch", "NoSize", "Wrong", "NoTimes", "Unlike", "NoText"]:=⟨(zau (zdW zbd zhY) (zau (zdW zbs znP) (zau (zdW zc8 zjE) (zau (zdW zaS zjM) (zau (zdW za9 zly) (zau (zdW zbt znI) (zau (zdW zc5 zjC) (zau (zdW zdY zk5) (zau (zdW zd4 zk2) zhX))))))))),(zau (zau (za7 zaS zbd zcb) (zau (za7 zaS zbs zdr) (zau (za7 zaS zc8 zcG) (zau (za7 zaS zaS zcE) (zau (za7 zaS za9 zc4) (zau (za7 zaS zbt zdg) (zau (za7 zaS zc5 zcC) (zau (za7 zaS zdY zc9) (zau (za7 zaS zd4 zc0) zhX))))))))) (zau (zau (za7 za9 zbd zcs) (zau (za7 za9 zbs zdT) (zau (za7 za9 zc8 zda) (zau (za7 za9 zaS zc2) (zau (za7 za9 za9 zdt) (zau (za7 za9 zbt zdP) (zau (za7 za9 zc5 zcZ) (zau (za7 za9 zdY zdf) (zau (za7 za9 zd4 zdq) zhX))))))))) (zau (zau (za7 zbs zbd zcH) (zau (za7 zbs zbs zeh) (zau (za7 zbs zc8 zdw) (zau (za7 zbs zaS zdo) (zau (za7 zbs za9 zdN) (zau (za7 zbs zbt zea) (zau (za7 zbs zc5 zdn) (zau (za7 zbs zdY zdS) (zau (za7 zbs zd4 zdO) zhX))))))))) (zau (zau (za7 zbt zbd zcA) (zau (za7 zbt zbs zeb) (zau (za7 zbt zc8 zdh) (zau (za7 zbt zaS zdu) (zau (za7 zbt za9 zdM) (zau (za7 zbt zbt zel) (zau (za7 zbt zc5 zdp) (zau (za7 zbt zdY zdU) (zau (za7 zbt zd4 zdQ) zhX))))))))) zhX)))),(zau (zdW zaS zhq) (zau (zdW za9 zi4) (zau (zdW zbs zkW) (zau (zdW zbt zjT) zhX)))),by decide⟩
 have zns:=zlX (st:=zf5) zj0 zjV zkH
 have O_NoRow:OwnF K mg "NoRow" "at":=⟨zaY,zgb,zaL, "NoRow.__init__",zf5,_, "RankError", "self", "at",⟨zke,zkd,zkk,zh7⟩,⟨rd_b,fc_b,sg_b⟩,zns,zqJ,zns.binds (fun _ _ _ _ _ _ us hl=>us2 us hl (fun _ _=>rfl)),PySem.W.mg_of X G zbd,PySem.W.mg_of X G zbs,zbs⟩
 have zjF:=zlX (st:=zd5) zhA zhT zhm
 have O_NoPouch:OwnF K mg "NoPouch" "at":=⟨zaE,zd9,zaL, "NoPouch.__init__",zd5,_, "RankError", "self", "at",⟨zhr,zhy,zhN,zgh⟩,⟨rd_b,fc_b,sg_b⟩,zjF,zop,zjF.binds (fun _ _ _ _ _ _ us hl=>us2 us hl (fun _ _=>rfl)),PySem.W.mg_of X G zbd,PySem.W.mg_of X G zaS,zaS⟩
 have znH:=zlX (st:=zf4) zkD zjY zjS
 have O_Wrong:OwnF K mg "Wrong" "at":=⟨zaZ,zf8,zaL, "Wrong.__init__",zf4,_, "RankError", "self", "at",⟨zjX,zkJ,zkB,zh6⟩,⟨rd_b,fc_b,sg_b⟩,znH,zrn,znH.binds (fun _ _ _ _ _ _ us hl=>us2 us hl (fun _ _=>rfl)),PySem.W.mg_of X G zbd,PySem.W.mg_of X G zbt,zbt⟩
 have F_at:XFld K ["NoPouch", "NoRow", "Wrong"] "at":=(zau (zdW zaS ⟨zgf,zgj,zgh,zgi,zhC⟩) (zau (zdW zbs ⟨zie,zii,zh7,zir,zkx⟩) (zau (zdW zbt ⟨ziv,zh9,zh6,zij,zkc⟩) zhX)))
 have zlt:HasFn K mg "look_pouch" zcI:=zaC X G a0 l0 c0 k0
 have zms:HasFn K mg "good_head" zdv:=zaC X G a1 l1 c1 k1
 have zlB:HasFn K mg "good_entry" zcL:=zaC X G a2 l2 c2 k2
 have zmg:HasFn K mg "stands_at" zdy:=zaC X G a3 l3 c3 k3
 have zlk:HasFn K mg "good_alone" zcN:=zaC X G a4 l4 c4 k4
 have zj8:HasFn K mg "good_beside" zcj:=zaC X G a5 l5 c5 k5
 have zkl:HasFn K mg "near_enough" zch:=zaC X G a6 l6 c6 k6
 have zon:HasFn K mg "look_row" zd8:=zaC X G a7 l7 c7 k7
 have zrV:HasFn K mg "packed" zeV:=zaC X G a8 l8 c8 k8
 have zm0:HasFn K mg "places_of" zdl:=zaC X G a9 l9 c9 k9
 have zs5:HasFn K mg "judge" zhH:=zaC X G a10 l10 c10 k10
 have zku:HasFn K mg "look_places" zcg:=zaC X G a11 l11 c11 k11
 have zoy:HasFn K mg "_law_mix" zd6:=zaC X G a12 l12 c12 k12
 have zmJ:HasFn K mg "_law_cell" zdm:=zaC X G a13 l13 c13 k13
 have zj7:HasFn K mg "_law_number" zci:=zaC X G a14 l14 c14 k14
 have zlo:HasFn K mg "_law_times" zcM:=zaC X G a15 l15 c15 k15
 have zn7:HasFn K mg "_law_row" zd7:=zaC X G a16 l16 c16 k16
 have zmn:HasFn K mg "_law_upto" zcD:=zaC X G a17 l17 c17 k17
 have zl5:HasFn K mg "_law_below" zb4:=zaC X G a18 l18 c18 k18
 have zjQ:HasFn K mg "_law_sorted" zcc:=zaC X G a19 l19 c19 k19
 have zp8:HasFn K mg "_law_at" zeK:=zaC X G a20 l20 c20 k20
 have zki:HasFn K mg "_law_places" zcm:=zaC X G a21 l21 c21 k21
 have zmB:HasFn K mg "_law_wide" zdx:=zaC X G a22 l22 c22 k22
 have zjs:HasFn K mg "_law_entries" zbk:=zaC X G a23 l23 c23 k23
 have zlp:HasFn K mg "_law_slack" zcU:=zaC X G a24 l24 c24 k24
 have zl3:HasFn K mg "_law_pouch" zb8:=zaC X G a25 l25 c25 k25
 have zlK:HasFn K mg "_law_alone" zcO:=zaC X G a26 l26 c26 k26
 have zkh:HasFn K mg "_law_beside" zcl:=zaC X G a27 l27 c27 k27
 have zmU:HasFn K mg "_law_form" zdj:=zaC X G a28 l28 c28 k28
 have zjq:HasFn K mg "_law_bad_run" zbX:=zaC X G a29 l29 c29 k29
 have zkX:HasFn K mg "_law_wrong" zcT:=zaC X G a30 l30 c30 k30
 have zn2:HasFn K mg "_law_due" zdd:=zaC X G a31 l31 c31 k31
 have zg6:HasFn K mg "_law_row_spoiled" zbb:=zaC X G a32 l32 c32 k32
 have zgp:HasFn K mg "_law_entry_spoiled" za2:=zaC X G a33 l33 c33 k33
 have zgl:HasFn K mg "_law_pouch_spoiled" za3:=zaC X G a34 l34 c34 k34
 have zjt:HasFn K mg "_law_strange" zbW:=zaC X G a35 l35 c35 k35
 have zld:HasFn K mg "_law_asked" zcJ:=zaC X G a36 l36 c36 k36
 have FL:=zlX (st:=zj6) l37 c37 k37
 refine ⟨PySem.W.fnOf "law" "law" (zax zj6) (zap zj6) (zae zj6) .none kV37 dc37 pm37 an37 cd37 ct37,fun s v => .of_eq rfl,fun base _ _=>?_⟩
 have zgJ:=zmC (P:=l.prog) (w:=w) (base:=base) B zms
 have zeP:=zmq (P:=l.prog) (w:=w) (base:=base) B zmg
 have zfQ:=zlM (P:=l.prog) (w:=w) (base:=base) B zlk
 have zfd:=zkA (P:=l.prog) (w:=w) (base:=base) B zkl
 have zjP:=zrq (P:=l.prog) (w:=w) (base:=base) B zrV
 have zaM:=zoA (P:=l.prog) (w:=w) (base:=base) B zoy
 have ze4:=zkQ (P:=l.prog) (w:=w) (base:=base) B zj7
 have zfS:=zk4 (P:=l.prog) (w:=w) (base:=base) B zlo
 have zgF:=zm9 (P:=l.prog) (w:=w) (base:=base) B zmn
 have zfE:=zlP (P:=l.prog) (w:=w) (base:=base) B zl5
 have zfb:=zkE (P:=l.prog) (w:=w) (base:=base) B zjQ
 have ziY:=zoF (P:=l.prog) (w:=w) (base:=base) B zp8
 have ze5:=zmf (P:=l.prog) (w:=w) (base:=base) B zmB
 have zcQ:=zla (P:=l.prog) (w:=w) (base:=base) B zlp
 have zfV:=zln (P:=l.prog) (w:=w) (base:=base) B zlK
 have zeO:=zjW (P:=l.prog) (w:=w) (base:=base) B zkh
 have zdA:=zjj (P:=l.prog) (w:=w) (base:=base) B zjq
 have zc3:=zha (P:=l.prog) (w:=w) (base:=base) B zg6
 have zcr:=zgm (P:=l.prog) (w:=w) (base:=base) B zgp
 have zbT:∀ {p d:Addr} {oe:Obj} {e:Exc},Cau K oe d e→DefP l.prog w K mg base "_law_strange" 1 ["_law_error"] p oe (za8 p e):=fun he=>zjk B zjt C_NoPlace C_NoText C_NoTimes C_RankError C_Unlike T_all he
 have ze2:=zkv (P:=l.prog) (w:=w) (base:=base) B zj8 zfd
 have zgI:=zmy (P:=l.prog) (w:=w) (base:=base) B zm0 zjP
 have zbQ:=zmO (P:=l.prog) (w:=w) (base:=base) B zmJ zaM
 have ze3:=zkR (P:=l.prog) (w:=w) (base:=base) B zki zaM
 have zeE:=zjo (P:=l.prog) (w:=w) (base:=base) B zjs ziY zaM zfb ze5
 have zfg:=zmQ (P:=l.prog) (w:=w) (base:=base) B zmU zfV zeO
 have zex:=zlv (P:=l.prog) (w:=w) (base:=base) B zkX zfE zgF
 have zcq:=zgn (P:=l.prog) (w:=w) (base:=base) B zgl zcr zcQ
 have zfZ:=zlw (P:=l.prog) (w:=w) (base:=base) B zlB zfQ ze2 zeP
 have zhJ:=zob (P:=l.prog) (w:=w) (base:=base) B zon zjf O_NoRow
 have zeW:=zkU (P:=l.prog) (w:=w) (base:=base) B zku O_Wrong
 have zhB:=zn9 (P:=l.prog) (w:=w) (base:=base) B zn7 zbQ zaM ze4 zfS
 have zf2:=zlW (P:=l.prog) (w:=w) (base:=base) B zl3 zeE zaM ze3 zcQ
 have zhl:=zn8 (P:=l.prog) (w:=w) (base:=base) B zn2 zdA zfg zex
 have zfL:=zlH (P:=l.prog) (w:=w) (base:=base) B zlt zfZ zgJ O_NoPouch
 have zmh:=ztF (P:=l.prog) (w:=w) (base:=base) B zs5 zeW zfL zhJ zgI O_NoSize
 have zes:=zlm (P:=l.prog) (w:=w) (base:=base) B zld C_NoPouch C_NoRow C_NoSize C_Wrong zmh zbT F_at T_all
 exact zuY (zwD B FL zes zbQ zhl zaM zf2 zcq zhB zc3) M.ztz
theorem walk {l:PySem.W.OpenLaw} {q:Program} {loose:List Str} {XP:(Str→Option Value)→Heap→Prop} {YP:World→Heap→Prop} {d:DefRec} {K:Params→PySem.W.Frag} (hn:l.most=some 63) (hdf:d.params.defaults=[])
  (hY:∀ (w:World) (h:Heap),YP w h→(K w.params).In h)
  (F:∀ (w:World) (mg:Str→Option Value) (fa:Addr) (h:Heap),(K w.params).In h→h.Ns mainGlobals mg→mg d.name=some (.ref fa) →
   ∃ fd:FuncData,(∀ (s:Shared) (u:Value),BindsTo s fd ⟨[u],[]⟩ [("_law_script",u)])∧∀ base:Heap,(K w.params).In base→base.Ns mainGlobals mg→FnOk l.prog w (K w.params) mg base CX0 7 fa fd ["_law_script"] (zrO (K w.params))) :
  PySem.W.WalkO q loose XP YP l.row.toRowW d [] (fun f vs=>PySem.call f vs) :=
 L2.zt0 (n:=63) (k:=7) (x := "_law_script") (CX:=fun _=>CX0) (sp:=fun w=>zrO (K w.params)) hn (by decide) hdf ⟨rfl,by decide,by decide⟩ hY F (fun _ _ a ns hl _ hS=>⟨a,ns,rfl,hS,hl,fun _=>rfl⟩) fun _ _ _ _ _ z=>z
end K32
open PySem PySem.W PyProof.Rows
namespace HD
open PySem PySem.W PyProof.Rows
def runT (B:String→Option Builtin) (p:Program) (w:World) (lo:Nat) (an:Option Value):Nat→SharedT→Thread→Option SharedT
 | 0,_,_=>none
 | m + 1,x,th=>bif through th then some x else bif stepOk lo an th then (stepT (denote B) p w x th).bind (fun y=>runT B p w lo an m y.1 y.2) else none
theorem zuv {B:String→Option Builtin} {p:Program} {w:World} {lo:Nat} {an:Option Value} (m:Nat) :
  ∀ (x y:SharedT) (th:Thread),runT B p w lo an m x th=some y→topRun B p w lo an m x.abs th=some y.abs:=by
 induction m with
 | zero=>intro x y th z;cases z
 | succ m ih =>
  intro x y th z
  unfold runT at z;unfold topRun
  cases a:through th <;> rw [a] at z
  ·cases b:stepOk lo an th <;> rw [b] at z
   ·cases z
   ·obtain ⟨u,hu,z'⟩:=Option.bind_eq_some_iff.mp (show (stepT (denote B) p w x th).bind _=some y from z)
    dsimp only
    rw [stepT_spec (s':=u.1) (t':=u.2) hu]
    exact ih _ _ _ z'
  ·cases z;rfl
def grow:List Obj→BT→Nat→BT
 | [],T,_=>T
 | o :: l,T,n=>grow l (T.ins n o) (n + 1)
noncomputable def boot (w:World) (os:OsState):SharedT:=⟨grow (boot_heap w.params).objs.toList .nil 0,11,(boot_heap w.params).life,#[],boot_drawn,boot_toks,os⟩
noncomputable def ends (p:Program) (N:Nat) (w:World) (os:OsState):Option SharedT:=runT treeTable p w 11 (some (.ref 6)) N (boot w os) (topStub p)
theorem zo3 (w:World):((boot_heap w.params).isNs mainGlobals && (#[] : Array GenState).size == 0,(boot_heap w.params).objs.size,(boot_heap w.params).nsMap mainGlobals "__annotations__")=(true,11,some (Value.ref 6)):=by kernel_rfl
theorem boot_abs (w:World) (os:OsState):(boot w os).abs=⟨boot_heap w.params,#[],boot_drawn,boot_toks,os⟩:=by kernel_rfl
def fits (p:Program) (h:Heap) (y:SharedT):Bool:=staticsOk (importedModules p.main.body) h y.abs.heap && namesBound p y.abs.heap && gensDone y.abs && laidKept h y.abs.heap
theorem left {p q:Program} {loose:List Str} {Xt:Shared→Bool} {α:Type} {Yf:Shared→α} {Ya:World→α} {N:Nat} {g0:Bool}
  (plain:opening p=plainProg p.main.scope.names) (hN:Nat.ble 600 N=true) (fence:∀ s,fenceModules? p s=some s)
  (tests:∀ (w:World) (os:OsState),(ends p N w os).map (fits p (boot_heap w.params))=some true)
  (zsX:∀ (w:World) (os:OsState),(ends p N w os).map (fun y=>openSeen q loose (importedModules p.main.body) Xt g0 y.abs)=some (openGood q loose))
  (hook:∀ (w:World) (os:OsState),(ends p N w os).map (fun y=>Yf y.abs)=some (Ya w)) :
  LeftO p q loose Xt Yf Ya N g0:=by
 intro w
 obtain ⟨⟨hp,ge,dr,tk,os⟩,ho,hq⟩:=Option.map_eq_some_iff.mp (boot_open plain hN fence w)
 simp only [Prod.mk.injEq] at hq
 obtain ⟨rfl,rfl,rfl,rfl⟩:=hq
 have bs:=zo3 w
 simp only [Prod.mk.injEq] at bs
 obtain ⟨y,hy,a1⟩:=Option.map_eq_some_iff.mp (tests w os)
 have a2:=zsX w os
 have a3:=hook w os
 rw [hy] at a2 a3
 have rr:=zuv _ _ _ _ hy
 rw [boot_abs] at rr
 have tt:topFrom treeTable p w N ⟨boot_heap w.params,#[],boot_drawn,boot_toks,os⟩ = some y.abs:=by
  unfold topFrom;dsimp only
  rw [bs.1,bs.2.1,bs.2.2,rr]
  show (match fits p (boot_heap w.params) y with | true=>some y.abs | false=>none)=some y.abs
  rw [a1]
 show ((fencedOpening treeTable p w N).bind (topFrom treeTable p w N)).map _=_
 rw [ho,Option.bind_some,tt,Option.map_some,Option.some.injEq,Prod.mk.injEq]
 exact ⟨Option.some.inj a2,Option.some.inj a3⟩
end HD
namespace HD
open PySem PySem.W PyProof.Rows
set_option maxRecDepth 100000
set_option maxHeartbeats 0
noncomputable def zuP (ds:List Nat) (l:List Stmt):List Stmt:=@List.rec Stmt (fun _=>Nat→List Stmt) (fun _=>[]) (fun s _ f i=>@Bool.rec (fun _=>List Stmt) (s :: f (Nat.succ i)) (f (Nat.succ i)) (ds.any (Nat.beq i))) l 0
noncomputable def kept:Program:={ PySem.Challenge.pw_rankpouch_k32_the_judge_refuses with main:={ PySem.Challenge.pw_rankpouch_k32_the_judge_refuses.main with body:=zuP [0,10,18,23,26] PySem.Challenge.pw_rankpouch_k32_the_judge_refuses.main.body } }
noncomputable def seenX (s:Shared):Bool:=xlAt kept [] s && recOk (RowW.records (OpenRow.toRowW (OpenLaw.row PySem.Challenge.rw_rankpouch_k32_the_judge_refuses))) s
theorem said:OpenLaw.wellSaid PySem.Challenge.rw_rankpouch_k32_the_judge_refuses=true:=by kernel_rfl
theorem plain:opening PySem.Challenge.pw_rankpouch_k32_the_judge_refuses=plainProg PySem.Challenge.pw_rankpouch_k32_the_judge_refuses.main.scope.names:=by kernel_rfl
theorem fence (s:Shared):fenceModules? PySem.Challenge.pw_rankpouch_k32_the_judge_refuses s=some s:=by kernel_rfl
theorem tests (w:World) (os:OsState):(ends PySem.Challenge.pw_rankpouch_k32_the_judge_refuses 6684 w os).map (fits PySem.Challenge.pw_rankpouch_k32_the_judge_refuses (boot_heap w.params))=some true:=by kernel_rfl
theorem zsX (w:World) (os:OsState):(ends PySem.Challenge.pw_rankpouch_k32_the_judge_refuses 6684 w os).map (fun y=>openSeen kept [] (importedModules PySem.Challenge.pw_rankpouch_k32_the_judge_refuses.main.body) seenX true y.abs)=some (openGood kept []):=by kernel_rfl
end HD
open PySem PySem.W PyProof.Rows
local macro_rules
 | `(tactic| o_head $H)=>`(tactic| refine holds_open (q:=HD.kept) (loose:=[]) (N:=6684) (Xt:=HD.seenX)
   (XP:=XL HD.kept []) (Yf:=Hook.obs $H) (Ya:=Hook.val $H) (YP:=Hook.says $H)
   ?_ (Hook.of $H) (Hook.keeps $H) (fun s e=>xl_of s (Bool.and_eq_true_iff.mp e).1) XL.keeps
   (by rfl) (by rfl) (by rfl) (fun s e=>recFacts_of (Bool.and_eq_true_iff.mp e).2)
   (by rfl) (by assumption) (by decide +kernel) ⟨rfl,rfl,rfl,rfl,rfl,by decide +kernel⟩ ?_ ?_)
set_option maxRecDepth 100000 in
set_option maxHeartbeats 0 in
theorem PySem.Challenge.cw_rankpouch_k32_the_judge_refuses_holds : PySem.Challenge.rw_rankpouch_k32_the_judge_refuses.Holds := by
 w_on
 refine holds_law HD.said fun said=>?_
 k_head
 ·clear said
  refine HD.left HD.plain (by kernel_rfl) HD.fence HD.tests HD.zsX ?_
  intro w os
  kernel_rfl
 ·clear said
  w_witness2
 clear said
 k_fill
 refine K32.walk (l:=PySem.Challenge.rw_rankpouch_k32_the_judge_refuses) rfl rfl (fun w h Y=>PySem.W.kIn_of Y) ?F
 case F =>
  intro w mg fa h KX G hmg
  refine' K32.all_mk KX G hmg ?a0 ?l0 ?c0 ?k0 ?a1 ?l1 ?c1 ?k1 ?a2 ?l2 ?c2 ?k2 ?a3 ?l3 ?c3 ?k3 ?a4 ?l4 ?c4 ?k4 ?a5 ?l5 ?c5 ?k5 ?a6 ?l6 ?c6 ?k6 ?a7 ?l7 ?c7 ?k7 ?a8 ?l8 ?c8 ?k8 ?a9 ?l9 ?c9 ?k9 ?a10 ?l10 ?c10 ?k10 ?a11 ?l11 ?c11 ?k11 ?a12 ?l12 ?c12 ?k12 ?a13 ?l13 ?c13 ?k13 ?a14 ?l14 ?c14 ?k14 ?a15 ?l15 ?c15 ?k15 ?a16 ?l16 ?c16 ?k16 ?a17 ?l17 ?c17 ?k17 ?a18 ?l18 ?c18 ?k18 ?a19 ?l19 ?c19 ?k19 ?a20 ?l20 ?c20 ?k20 ?a21 ?l21 ?c21 ?k21 ?a22 ?l22 ?c22 ?k22 ?a23 ?l23 ?c23 ?k23 ?a24 ?l24 ?c24 ?k24 ?a25 ?l25 ?c25 ?k25 ?a26 ?l26 ?c26 ?k26 ?a27 ?l27 ?c27 ?k27 ?a28 ?l28 ?c28 ?k28 ?a29 ?l29 ?c29 ?k29 ?a30 ?l30 ?c30 ?k30 ?a31 ?l31 ?c31 ?k31 ?a32 ?l32 ?c32 ?k32 ?a33 ?l33 ?c33 ?k33 ?a34 ?l34 ?c34 ?k34 ?a35 ?l35 ?c35 ?k35 ?a36 ?l36 ?c36 ?k36 ?a37 ?l37 ?c37 ?k37 ?zfu ?zpF ?zgL ?zt9 ?zfB ?ztU ?zpw ?zs0 ?zsG ?zme ?zhR ?zkP ?ztn ?zjh ?zbd ?zbs ?zc8 ?zaS ?za9 ?zbt ?zc5 ?zdY ?zd4 ?o_RankError ?zf0 ?zfK ?zfX ?zfr ?zfO ?o_NoRow ?zie ?zii ?zkT ?zir ?zkz ?o_NoPlace ?zhG ?zhP ?zhv ?zhu ?zhf ?o_NoPouch ?zgf ?zgj ?zhO ?zgi ?zhg ?o_NoSize ?ziy ?zi8 ?zi1 ?zjb ?zi5 ?o_Wrong ?ziv ?zh9 ?zj2 ?zij ?zkn ?o_NoTimes ?zhi ?zhw ?zhe ?zhc ?zhF ?o_Unlike ?ziI ?ziw ?ziH ?ziO ?ziC ?o_NoText ?ziL ?ziT ?ziD ?ziP ?zi0 ?zhn ?fd_NoRow ?zj0 ?zjV ?zkH ?zkk ?zh7 ?zke ?zkd ?zkx ?fd_NoPouch ?zhA ?zhT ?zhm ?zhN ?zgh ?zhr ?zhy ?zhC ?fd_Wrong ?zkD ?zjY ?zjS ?zkB ?zh6 ?zjX ?zkJ ?zkc ?rd_b ?fc_b ?sg_b ?zhq ?zcb ?zdr ?zcG ?zcE ?zc4 ?zdg ?zcC ?zc9 ?zc0 ?zi4 ?zcs ?zdT ?zda ?zc2 ?zdt ?zdP ?zcZ ?zdf ?zdq ?zkW ?zcH ?zeh ?zdw ?zdo ?zdN ?zea ?zdn ?zdS ?zdO ?zjT ?zcA ?zeb ?zdh ?zdu ?zdM ?zel ?zdp ?zdU ?zdQ
  (case a0=>k_is)
  (case l0=>k_is)
  (case c0=>k_is)
  (case k0=>k_is)
  (case a1=>k_is)
  (case l1=>k_is)
  (case c1=>k_is)
  (case k1=>k_is)
  (case a2=>k_is)
  (case l2=>k_is)
  (case c2=>k_is)
  (case k2=>k_is)
  (case a3=>k_is)
  (case l3=>k_is)
  (case c3=>k_is)
  (case k3=>k_is)
  (case a4=>k_is)
  (case l4=>k_is)
  (case c4=>k_is)
  (case k4=>k_is)
  (case a5=>k_is)
  (case l5=>k_is)
  (case c5=>k_is)
  (case k5=>k_is)
  (case a6=>k_is)
  (case l6=>k_is)
  (case c6=>k_is)
  (case k6=>k_is)
  (case a7=>k_is)
  (case l7=>k_is)
  (case c7=>k_is)
  (case k7=>k_is)
  (case a8=>k_is)
  (case l8=>k_is)
  (case c8=>k_is)
  (case k8=>k_is)
  (case a9=>k_is)
  (case l9=>k_is)
  (case c9=>k_is)
  (case k9=>k_is)
  (case a10=>k_is)
  (case l10=>k_is)
  (case c10=>k_is)
  (case k10=>k_is)
  (case a11=>k_is)
  (case l11=>k_is)
  (case c11=>k_is)
  (case k11=>k_is)
  (case a12=>k_is)
  (case l12=>k_is)
  (case c12=>k_is)
  (case k12=>k_is)
  (case a13=>k_is)
  (case l13=>k_is)
  (case c13=>k_is)
  (case k13=>k_is)
  (case a14=>k_is)
  (case l14=>k_is)
  (case c14=>k_is)
  (case k14=>k_is)
  (case a15=>k_is)
  (case l15=>k_is)
  (case c15=>k_is)
  (case k15=>k_is)
  (case a16=>k_is)
  (case l16=>k_is)
  (case c16=>k_is)
  (case k16=>k_is)
  (case a17=>k_is)
  (case l17=>k_is)
  (case c17=>k_is)
  (case k17=>k_is)
  (case a18=>k_is)
  (case l18=>k_is)
  (case c18=>k_is)
  (case k18=>k_is)
  (case a19=>k_is)
  (case l19=>k_is)
  (case c19=>k_is)
  (case k19=>k_is)
  (case a20=>k_is)
  (case l20=>k_is)
  (case c20=>k_is)
  (case k20=>k_is)
  (case a21=>k_is)
  (case l21=>k_is)
  (case c21=>k_is)
  (case k21=>k_is)
  (case a22=>k_is)
  (case l22=>k_is)
  (case c22=>k_is)
  (case k22=>k_is)
  (case a23=>k_is)
  (case l23=>k_is)
  (case c23=>k_is)
  (case k23=>k_is)
  (case a24=>k_is)
  (case l24=>k_is)
  (case c24=>k_is)
  (case k24=>k_is)
  (case a25=>k_is)
  (case l25=>k_is)
  (case c25=>k_is)
  (case k25=>k_is)
  (case a26=>k_is)
  (case l26=>k_is)
  (case c26=>k_is)
  (case k26=>k_is)
  (case a27=>k_is)
  (case l27=>k_is)
  (case c27=>k_is)
  (case k27=>k_is)
  (case a28=>k_is)
  (case l28=>k_is)
  (case c28=>k_is)
  (case k28=>k_is)
  (case a29=>k_is)
  (case l29=>k_is)
  (case c29=>k_is)
  (case k29=>k_is)
  (case a30=>k_is)
  (case l30=>k_is)
  (case c30=>k_is)
  (case k30=>k_is)
  (case a31=>k_is)
  (case l31=>k_is)
  (case c31=>k_is)
  (case k31=>k_is)
  (case a32=>k_is)
  (case l32=>k_is)
  (case c32=>k_is)
  (case k32=>k_is)
  (case a33=>k_is)
  (case l33=>k_is)
  (case c33=>k_is)
  (case k33=>k_is)
  (case a34=>k_is)
  (case l34=>k_is)
  (case c34=>k_is)
  (case k34=>k_is)
  (case a35=>k_is)
  (case l35=>k_is)
  (case c35=>k_is)
  (case k35=>k_is)
  (case a36=>k_is)
  (case l36=>k_is)
  (case c36=>k_is)
  (case k36=>k_is)
  (case a37=>k_is)
  (case l37=>k_is)
  (case c37=>k_is)
  (case k37=>k_is)
  (case zfu=>k_is)
  (case zpF=>k_is)
  (case zgL=>k_is)
  (case zt9=>k_is)
  (case zfB=>k_is)
  (case ztU=>k_is)
  (case zpw=>k_is)
  (case zs0=>k_is)
  (case zsG=>k_is)
  (case zme=>k_is)
  (case zhR=>k_is)
  (case zkP=>k_is)
  (case ztn=>k_is)
  (case zjh=>k_is)
  (case zbd=>k_is)
  (case zbs=>k_is)
  (case zc8=>k_is)
  (case zaS=>k_is)
  (case za9=>k_is)
  (case zbt=>k_is)
  (case zc5=>k_is)
  (case zdY=>k_is)
  (case zd4=>k_is)
  (case o_RankError=>k_is)
  (case zf0=>k_is)
  (case zfK=>k_is)
  (case zfX=>k_is)
  (case zfr=>k_is)
  (case zfO=>k_is)
  (case o_NoRow=>k_is)
  (case zie=>k_is)
  (case zii=>k_is)
  (case zkT=>k_is)
  (case zir=>k_is)
  (case zkz=>k_is)
  (case o_NoPlace=>k_is)
  (case zhG=>k_is)
  (case zhP=>k_is)
  (case zhv=>k_is)
  (case zhu=>k_is)
  (case zhf=>k_is)
  (case o_NoPouch=>k_is)
  (case zgf=>k_is)
  (case zgj=>k_is)
  (case zhO=>k_is)
  (case zgi=>k_is)
  (case zhg=>k_is)
  (case o_NoSize=>k_is)
  (case ziy=>k_is)
  (case zi8=>k_is)
  (case zi1=>k_is)
  (case zjb=>k_is)
  (case zi5=>k_is)
  (case o_Wrong=>k_is)
  (case ziv=>k_is)
  (case zh9=>k_is)
  (case zj2=>k_is)
  (case zij=>k_is)
  (case zkn=>k_is)
  (case o_NoTimes=>k_is)
  (case zhi=>k_is)
  (case zhw=>k_is)
  (case zhe=>k_is)
  (case zhc=>k_is)
  (case zhF=>k_is)
  (case o_Unlike=>k_is)
  (case ziI=>k_is)
  (case ziw=>k_is)
  (case ziH=>k_is)
  (case ziO=>k_is)
  (case ziC=>k_is)
  (case o_NoText=>k_is)
  (case ziL=>k_is)
  (case ziT=>k_is)
  (case ziD=>k_is)
  (case ziP=>k_is)
  (case zi0=>k_is)
  (case zhn=>k_exc)
  (case fd_NoRow=>k_is)
  (case zj0=>k_is)
  (case zjV=>k_is)
  (case zkH=>k_is)
  (case zkk=>k_is)
  (case zh7=>k_is)
  (case zke=>kernel_rfl)
  (case zkd=>kernel_rfl)
  (case zkx=>kernel_rfl)
  (case fd_NoPouch=>k_is)
  (case zhA=>k_is)
  (case zhT=>k_is)
  (case zhm=>k_is)
  (case zhN=>k_is)
  (case zgh=>k_is)
  (case zhr=>kernel_rfl)
  (case zhy=>kernel_rfl)
  (case zhC=>kernel_rfl)
  (case fd_Wrong=>k_is)
  (case zkD=>k_is)
  (case zjY=>k_is)
  (case zjS=>k_is)
  (case zkB=>k_is)
  (case zh6=>k_is)
  (case zjX=>kernel_rfl)
  (case zkJ=>kernel_rfl)
  (case zkc=>kernel_rfl)
  (case rd_b=>kernel_rfl)
  (case fc_b=>kernel_rfl)
  (case sg_b=>kernel_rfl)
  (case zhq=>k_is)
  (case zcb=>k_is)
  (case zdr=>k_is)
  (case zcG=>k_is)
  (case zcE=>k_is)
  (case zc4=>k_is)
  (case zdg=>k_is)
  (case zcC=>k_is)
  (case zc9=>k_is)
  (case zc0=>k_is)
  (case zi4=>k_is)
  (case zcs=>k_is)
  (case zdT=>k_is)
  (case zda=>k_is)
  (case zc2=>k_is)
  (case zdt=>k_is)
  (case zdP=>k_is)
  (case zcZ=>k_is)
  (case zdf=>k_is)
  (case zdq=>k_is)
  (case zkW=>k_is)
  (case zcH=>k_is)
  (case zeh=>k_is)
  (case zdw=>k_is)
  (case zdo=>k_is)
  (case zdN=>k_is)
  (case zea=>k_is)
  (case zdn=>k_is)
  (case zdS=>k_is)
  (case zdO=>k_is)
  (case zjT=>k_is)
  (case zcA=>k_is)
  (case zeb=>k_is)
  (case zdh=>k_is)
  (case zdu=>k_is)
  (case zdM=>k_is)
  (case zel=>k_is)
  (case zdp=>k_is)
  (case zdU=>k_is)
  (case zdQ=>k_is)
