import PyProof.Rows.All
import KE.KDictList
import KE.KItemsList
import KE.KRevIter
import KE.KSortTup
import KE.KUnpack
import PyProof.DefCall
import PyProof.Draws
import PyProof.ExcClass3
import PyProof.ExcInit
import PyProof.InstStoreFacts
import PyProof.MaxThree
import PyProof.P3In
import PyProof.Rows.FStr
import PyProof.ZipIter
import Wide.All
import OpenK.AllK
import Wide.FinOn
import Lean
import PyProof.EqAt
import PyProof.EqKinds
import PyProof.TupleCall
import PySem.Challenge.RW_rankpouch_k72_window_places
set_option Elab.async false
set_option linter.all false
set_option maxRecDepth 100000
namespace L2
open PySem PySem.Spec PyProof.Rows
abbrev Key:=Sum Int Str
def zqh:Key→Value→Bool
 | .inl k,v=>Value.isInt k v
 | .inr x,v=>Value.isStrOf x v
def keyH (w:World):Key→Int
 | .inl k=>hashInt k
 | .inr x=>hashStr w x
theorem zbn:∀ {k:Key} {v:Value},zqh k v=true→(∃ i t,k=Sum.inl i∧v=Value.int i t)∨(∃ x t,k=Sum.inr x∧v=Value.str x t)
 | .inl i,v,h=>by
  obtain ⟨t,e⟩:=Value.isInt_shape (k:=i) (v:=v) h
  exact .inl ⟨i,t,rfl,e⟩
 | .inr x,v,h=>by
  obtain ⟨t,e⟩:=Value.isStrOf_shape (x:=x) (v:=v) h
  exact .inr ⟨x,t,rfl,e⟩
theorem zsU (i:Int) (t:Tok):zqh (.inl i) (.int i t)=true:=by simp [zqh,Value.isInt]
theorem zqQ (x:Str) (t:Tok):zqh (.inr x) (.str x t)=true:=by simp [zqh,Value.isStrOf]
theorem zyO (a b:Int):decide ((Sum.inl a:Key)=Sum.inl b)=(a == b):=by
 by_cases e:a=b
 ·subst e;simp
 ·have h:¬ (Sum.inl a:Key)=Sum.inl b:=fun q=>e (Sum.inl.inj q)
  rw [decide_eq_false h]
  exact (beq_eq_false_iff_ne.mpr e).symm
theorem zzd (a b:Str):decide ((Sum.inr a:Key)=Sum.inr b)=decide (a=b):=by
 by_cases e:a=b
 ·subst e;simp
 ·have h:¬ (Sum.inr a:Key)=Sum.inr b:=fun q=>e (Sum.inr.inj q)
  rw [decide_eq_false h,decide_eq_false e]
theorem zxN (a:Int) (b:Str):decide ((Sum.inl a:Key)=Sum.inr b)=false:=decide_eq_false (fun q=>nomatch q)
theorem zxE (a:Str) (b:Int):decide ((Sum.inr a:Key)=Sum.inl b)=false:=decide_eq_false (fun q=>nomatch q)
def zbz (prog:Program) (w:World):PySem.KeyKind prog w Key where
 is:=zqh
 hash:=keyH w
 inj:=fun v a b ha hb=>by
  rcases zbn ha with ⟨i,t,rfl,rfl⟩ | ⟨x,t,rfl,rfl⟩
  ·rcases zbn hb with ⟨j,u,rfl,e⟩ | ⟨y,u,rfl,e⟩
   ·injection e with e1 _;rw [e1]
   ·exact nomatch e
  ·rcases zbn hb with ⟨j,u,rfl,e⟩ | ⟨y,u,rfl,e⟩
   ·exact nomatch e
   ·injection e with e1 _;rw [e1]
 byValue:=fun k v h=>by
  rcases zbn h with ⟨i,t,rfl,rfl⟩ | ⟨x,t,rfl,rfl⟩ <;> rfl
 pyHash:=fun hv h=>by
  rcases zbn hv with ⟨i,t,rfl,rfl⟩ | ⟨x,t,rfl,rfl⟩
  ·exact wpAny_pyHash_int h
  ·exact wpAny_pyHash_str h
 eqBool:=fun hu hv h=>by
  rcases zbn hu with ⟨i,t,rfl,rfl⟩ | ⟨x,t,rfl,rfl⟩
  ·rcases zbn hv with ⟨j,u,rfl,rfl⟩ | ⟨y,u,rfl,rfl⟩
   ·rw [zyO] at h;exact wpAny_eqBool_int h
   ·rw [zxN] at h;exact SeqAt.EqAt.int_str i t y u _ _ _ _ h
  ·rcases zbn hv with ⟨j,u,rfl,rfl⟩ | ⟨y,u,rfl,rfl⟩
   ·rw [zxE] at h;exact SeqAt.EqAt.str_int x t j u _ _ _ _ h
   ·rw [zzd] at h;exact wpAny_eqBool_str h
 «strs»:=fun k x t v h=>by
  rcases zbn h with ⟨i,u,rfl,e⟩ | ⟨y,u,rfl,e⟩
  ·exact nomatch e
  ·injection e with e1 _
   subst e1
   cases v <;> rfl
theorem zny (prog:Program) (w:World) (i:Int) (t:Tok):(zbz prog w).is (.inl i) (.int i t)=true:=zsU i t
theorem znf (prog:Program) (w:World) (x:Str) (t:Tok):(zbz prog w).is (.inr x) (.str x t)=true:=zqQ x t
end L2
namespace L2
open PySem PySem.Spec PyProof.Rows
inductive V where
 | non | bl (b:Bool) | int (i:Int) | str (x:Str) | byt (b:Array UInt8) | flt (b:UInt64) | ref (a:Addr) | ty (n:String)
 deriving DecidableEq
def RelV:V→Value→Prop
 | .non,u=>u=Value.none
 | .bl b,u=>u=Value.bool b
 | .int i,u=>∃ t,u=Value.int i t
 | .str x,u=>∃ t,u=Value.str x t
 | .byt b,u=>∃ t,u=Value.bytes b t
 | .flt b,u=>∃ t,u=Value.float b t
 | .ref a,u=>u=Value.ref a
 | .ty n,u=>u=Value.type n
abbrev Vals:List V→List Value→Prop:=Paired RelV
theorem Vals.length {xs:List V} {us:List Value} (r:Vals xs us):xs.length=us.length:=Paired.length r
theorem Vals.get:∀ {xs:List V} {us:List Value} {i:Nat} {x:V},Vals xs us→xs[i]? = some x→∃ u,us[i]? = some u∧RelV x u
 | _,_,_,_, .nil,e=>by simp at e
 | _,_,0,_, .cons r _,e=>by simp at e;subst e;exact ⟨_,rfl,r⟩
 | _,_,i + 1,x, .cons _ t,e=>by
  obtain ⟨u,h1,h2⟩:=Vals.get (i:=i) (x:=x) t (by simpa using e)
  exact ⟨u,by simpa using h1,h2⟩
theorem Vals.set {x:V} {u:Value} (r:RelV x u):∀ {xs:List V} {us:List Value} (i:Nat),Vals xs us→Vals (xs.set i x) (us.set i u)
 | _,_,_, .nil => .nil
 | _,_,0, .cons _ t => .cons r t
 | _,_,i + 1, .cons q t => .cons q (Vals.set r i t)
theorem Vals.append:∀ {xs ys:List V} {us ws:List Value},Vals xs us→Vals ys ws→Vals (xs ++ ys) (us ++ ws)
 | _,_,_,_, .nil,s=>s
 | _,_,_,_, .cons r t,s => .cons r (Vals.append t s)
theorem Vals.take:∀ {xs:List V} {us:List Value} (n:Nat),Vals xs us→Vals (xs.take n) (us.take n)
 | _,_,0,_ => .nil
 | _,_,_ + 1, .nil => .nil
 | _,_,n + 1, .cons r t => .cons r (Vals.take n t)
theorem Vals.drop:∀ {xs:List V} {us:List Value} (n:Nat),Vals xs us→Vals (xs.drop n) (us.drop n)
 | _,_,0,r=>r
 | _,_,_ + 1, .nil => .nil
 | _,_,n + 1, .cons _ t=>Vals.drop n t
def RelO:Option V→Option Value→Prop
 | some v,some u=>RelV v u
 | none,none=>True
 | _,_=>False
def KV {κ:Type}:List (κ × V)→List (κ × Value)→Prop:=Paired fun (p:κ × V) (q:κ × Value)=>p.1=q.1∧RelV p.2 q.2
def kV:Key→V
 | .inl i => .int i
 | .inr x => .str x
inductive HO where
 | lst (xs:List V)
 | tup (xs:List V)
 | dK (kvs:List (Key × V)) | dT (kvs:List (List Key × V))
 | set (S:Int→Bool) (n:Nat)
 | ins (C dx:Addr) (fs:List (Str × V))
 | own (x:Addr)
 | xd (fs:List (Str × V))
 | met (f x:Addr)
 | rng (lo hi:Int)
 | frz (o:Obj) (u:HO)
 | tbl (ps:Array Value)
 | ext (φ:Heap→Prop)
abbrev Hp:=Addr→Option HO
def upd (H:Hp) (a:Addr) (o:HO):Hp:=fun b=>if b=a then some o else H b
theorem zay {H:Hp} {a:Addr} {o:HO}:upd H a o a=some o:=by unfold upd;rw [if_pos rfl]
theorem zan {H:Hp} {a b:Addr} {o:HO} (h:b ≠ a):upd H a o b=H b:=by unfold upd;rw [if_neg h]
theorem znw {H:Hp} {a b:Addr} {o u:HO} (h:H a=some o) (h':H b=some u) (d:o ≠ u):a ≠ b:=by
 intro e;subst e;rw [h] at h';exact d (Option.some.inj h')
theorem zaz {H:Hp} {a b:Addr} {o:HO} (h:H a=some o) (h':H b=none):a ≠ b:=by
 intro e;subst e;rw [h] at h';cases h'
section
variable (P:Program) (w:World)
def zc6 (H:Hp) (h:Heap) (a:Addr):HO→Prop
 | .lst xs=>xs.length ≤ sizeLine∧∃ (its:List Value) (n:Nat),Vals xs its∧h.get? a=some { cls := .type "list",data := .seq its.toArray n }
 | .tup xs=>xs.length ≤ sizeLine∧∃ its:List Value,Vals xs its∧IsTup h a its.toArray
 | .dK kvs=>kvs.length ≤ sizeLine∧(a == sysModules)=false∧∃ vs,KV kvs vs∧h.DictOf (zbz P w) a vs
 | .dT kvs=>kvs.length ≤ sizeLine∧(a == sysModules)=false∧∃ xs:List (List Key × Addr × Value),
   Paired (fun (p:List Key × V) (q:List Key × Addr × Value)=>p.1=q.1∧H q.2.1=some (.tup (p.1.map kV))∧RelV p.2 q.2.2) kvs xs ∧
   ∃ o es ep,h.get? a=some o∧o.ExactDict∧o.data = .dict es ep∧es.toList=xs.map (entryOfKey (tupleKind (zbz P w)))∧(xs.map (·.1)).Nodup
 | .set S n=>h.SetOf (intKind P w) a S n
 | .ins C dx fs=>H dx=some (.own a)∧fs.length ≤ 1000∧dx ≠ a∧h.get? a=some (PySem.W.instObj C dx) ∧
   ∃ mA,h.Ns1 dx mA∧(∀ f,RelO (fs.lookup f) (mA f))∧PySem.Within mA (fs.map (·.1))
 | .own _=>∃ o,h.get? a=some o
 | .xd fs=>∃ mA,h.Ns1 a mA∧∀ f,RelO (fs.lookup f) (mA f)
 | .rng lo hi=>∃ t u v,h.get? a=some { cls := .type "range",data := .fields #[.int lo t, .int hi u, .int 1 v] }
 | .frz o u=>h.get? a=some o∧zc6 H h a u
 | .tbl ps=>h.get? a=some { cls := .none,data := .fields ps }
 | .met f x=>h.get? a=some (PySem.W.methodObj (.ref f) (.ref x))
 | .ext φ=>φ h∧(∃ o,h.get? a=some o)∧∀ h1 h2:Heap,φ h1→(∀ o,h1.get? a=some o→h2.get? a=some o)→φ h2
def HOk (H:Hp) (h:Heap):Prop:=∀ a o,H a=some o→zc6 P w H h a o
end
section
variable {P:Program} {w:World} {H H':Hp} {h h':Heap} {a:Addr} {o:HO}
theorem zc6.lt (x:zc6 P w H h a o):a < h.objs.size:=by
 cases o with
 | lst xs=>obtain ⟨_,_,_,_,e⟩:=x;exact Heap.lt_size e
 | tup xs=>obtain ⟨_,_,_,p⟩:=x;exact p.lt
 | dK kvs=>obtain ⟨_,_,_,_,o,_,_,e,_⟩:=x;exact Heap.lt_size e
 | dT kvs=>obtain ⟨_,_,_,_,o,_,_,e,_⟩:=x;exact Heap.lt_size e
 | set S n=>obtain ⟨o,_,_,_,e,_⟩:=x;exact Heap.lt_size e
 | ins C dx fs=>obtain ⟨_,_,_,e,_⟩:=x;exact Heap.lt_size e
 | own y=>obtain ⟨_,e⟩:=x;exact Heap.lt_size e
 | xd fs=>obtain ⟨_,⟨_,_,_,e,_⟩,_⟩:=x;exact Heap.lt_size e
 | rng lo hi=>obtain ⟨_,_,_,e⟩:=x;exact Heap.lt_size e
 | frz ob u=>obtain ⟨e,_⟩:=x;exact Heap.lt_size e
 | tbl ps=>exact Heap.lt_size (show h.get? a=some _ from x)
 | met f y=>exact Heap.lt_size (show h.get? a=some _ from x)
 | ext φ=>obtain ⟨_,⟨_,e⟩,_⟩:=x;exact Heap.lt_size e
theorem Paired.mapP {α β:Type} {F G:α→β→Prop}:∀ {l₁:List α} {l₂:List β},Paired F l₁ l₂→(∀ a b,F a b→G a b)→Paired G l₁ l₂
 | _,_, .nil,_ => .nil
 | _,_, .cons r t,f => .cons (f _ _ r) (Paired.mapP t f)
theorem zc6.stay (x:zc6 P w H h a o) (k:∀ b u,(b=a∨H b=some (.own a))→h.get? b=some u→h'.get? b=some u)
  (ho:∀ b,H b=some (.own a)→H' b=some (.own a)) (ht:∀ b xs,H b=some (.tup xs)→H' b=some (.tup xs)):zc6 P w H' h' a o:=by
 induction o with
 | lst xs=>obtain ⟨z,its,n,r,e⟩:=x;exact ⟨z,its,n,r,k _ _ (.inl rfl) e⟩
 | tup xs=>obtain ⟨z,its,r,ob,e,c⟩:=x;exact ⟨z,its,r,ob,k _ _ (.inl rfl) e,c⟩
 | dK kvs=>obtain ⟨z,y,vs,r,ob,es,ep,e,c⟩:=x;exact ⟨z,y,vs,r,ob,es,ep,k _ _ (.inl rfl) e,c⟩
 | dT kvs =>
  obtain ⟨z,y,xs,r,ob,es,ep,e,c⟩:=x
  exact ⟨z,y,xs,Paired.mapP r fun p q z=>⟨z.1,ht _ _ z.2.1,z.2.2⟩,ob,es,ep,k _ _ (.inl rfl) e,c⟩
 | set S n=>obtain ⟨ob,es,ep,t,e,c⟩:=x;exact ⟨ob,es,ep,t,k _ _ (.inl rfl) e,c⟩
 | ins C dx fs =>
  obtain ⟨d,z,ne,e,mA,⟨od,es,ep,e2,c⟩,r⟩:=x
  exact ⟨ho _ d,z,ne,k _ _ (.inl rfl) e,mA,⟨od,es,ep,k _ _ (.inr d) e2,c⟩,r⟩
 | own y=>obtain ⟨ob,e⟩:=x;exact ⟨ob,k _ _ (.inl rfl) e⟩
 | xd fs=>obtain ⟨mA,⟨od,es,ep,e,c⟩,r⟩:=x;exact ⟨mA,⟨od,es,ep,k _ _ (.inl rfl) e,c⟩,r⟩
 | rng lo hi=>obtain ⟨t,u,v,e⟩:=x;exact ⟨t,u,v,k _ _ (.inl rfl) e⟩
 | frz ob u ih=>obtain ⟨e,q⟩:=x;exact ⟨k _ _ (.inl rfl) e,ih q⟩
 | tbl ps =>
  have e:h.get? a=some { cls := .none,data := .fields ps }:=x
  show h'.get? a=some { cls := .none,data := .fields ps }
  exact k a _ (.inl rfl) e
 | met f y =>
  have e:h.get? a=some (PySem.W.methodObj (.ref f) (.ref y)):=x
  show h'.get? a=some (PySem.W.methodObj (.ref f) (.ref y))
  exact k a _ (.inl rfl) e
 | ext φ=>obtain ⟨p,⟨o,e⟩,st⟩:=x;exact ⟨st _ _ p fun o q=>k _ _ (.inl rfl) q,⟨o,k _ _ (.inl rfl) e⟩,st⟩
theorem HOk.lt (x:HOk P w H h) (e:H a=some o):a < h.objs.size:=(x a o e).lt
theorem HOk.fresh (x:HOk P w H h) (e:h.objs.size ≤ a):H a=none:=by
 cases q:H a with
 | none=>rfl
 | some u=>exact absurd (Nat.lt_of_lt_of_le (x.lt q) e) (Nat.lt_irrefl _)
theorem HOk.kept (x:HOk P w H h) (k:∀ b u,h.get? b=some u→h'.get? b=some u):HOk P w H h':=fun a o e =>
 (x a o e).stay (fun b u _ q=>k b u q) (fun _ q=>q) fun _ _ q=>q
theorem HOk.laid (x:HOk P w H h) (k:∀ b u,h.get? b=some u→h'.get? b=some u) (hp:h.objs.size ≤ a) (new:zc6 P w (upd H a o) h' a o):HOk P w (upd H a o) h':=fun b u e=>by
 have hn:=x.fresh hp
 by_cases hb:b=a
 ·subst hb;rw [zay] at e;cases e;exact new
 ·rw [zan hb] at e
  exact (x b u e).stay (fun c v _ q=>k c v q) (fun c q=>by rw [zan (zaz q hn)];exact q) fun c xs q=>by rw [zan (zaz q hn)];exact q
end
def Rd (H:Hp) (a:Addr) (u:HO):Prop:=H a=some u∨∃ o,H a=some (.frz o u)
theorem Rd.of {H:Hp} {a:Addr} {u:HO} (h:H a=some u):Rd H a u := .inl h
theorem Rd.ok {P:Program} {w:World} {H:Hp} {h:Heap} {a:Addr} {u:HO} (r:Rd H a u) (x:HOk P w H h):zc6 P w H h a u:=by
 rcases r with r | ⟨o,r⟩
 ·exact x a u r
 ·obtain ⟨_,q⟩:=x a _ r
  exact q
def Mut:Option HO→Prop
 | some (.lst _)=>True
 | some (.dK _)=>True
 | some (.dT _)=>True
 | some (.set _ _)=>True
 | some (.ins _ _ _)=>True
 | some (.ext _)=>True
 | _=>False
section
variable {P:Program} {w:World} {H:Hp} {h h':Heap} {x e:Addr} {o':HO}
theorem HOk.write (ok:HOk P w H h) (mu:Mut (H x)) (he:e=x∨H e=some (.own x)) (k:∀ b u,b ≠ e→h.get? b=some u→h'.get? b=some u) (heo:∃ u,h'.get? e=some u)
  (new:zc6 P w (upd H x o') h' x o'):HOk P w (upd H x o') h':=fun b u q=>by
 have nown:∀ c y,H c=some (.own y)→c ≠ x:=fun c y r z=>by subst z;rw [r] at mu;exact mu
 have ntup:∀ c xs,H c=some (.tup xs)→c ≠ x:=fun c xs r z=>by subst z;rw [r] at mu;exact mu
 by_cases hb:b=x
 ·subst hb;rw [zay] at q;cases q;exact new
 ·rw [zan hb] at q
  by_cases hbe:b=e
  ·have q':H b=some (.own x):=by
    rcases he with z | z
    ·exact absurd (hbe.trans z) hb
    ·rw [hbe];exact z
   rw [q] at q';cases q'
   obtain ⟨v,hv⟩:=heo
   exact ⟨v,by rw [hbe];exact hv⟩
  ·refine (ok b u q).stay (fun c v hc r=>k c v ?_ r) (fun c r=>by rw [zan (nown c b r)];exact r) fun c xs r=>by rw [zan (ntup c xs r)];exact r
   rcases hc with rfl | hc
   ·exact hbe
   ·rintro rfl
    rcases he with z | z
    ·exact nown c b hc z
    ·rw [hc] at z;cases z;exact hb rfl
end
structure Un (fs ex:List Addr) (H H':Hp) (h h':Heap):Prop where
 keep:∀ b o,h.get? b=some o→H b=none→b ∉ fs→b ∉ ex→h'.get? b=some o
 slot:∀ b o,h.get? b=some o→H b=none→b ∈ fs→b ∉ ex→∃ sl,h'.get? b=some { o with slots:=sl }
 free:∀ b o,h.get? b=some o→H b=none→b ∉ ex→H' b=none
 there:∀ b o,h.get? b=some o→b ∉ ex→∃ o',h'.get? b=some o'
 tups:∀ b xs,H b=some (.tup xs)→H' b=some (.tup xs)
 frzs:∀ b o u,H b=some (.frz o u)→H' b=some (.frz o u)
 tbls:∀ b ps,H b=some (.tbl ps)→∃ more,H' b=some (.tbl (ps ++ more))
section
variable {fs fs' ex ex':List Addr} {H H1 H2:Hp} {h h1 h2 h':Heap} {a x e:Addr} {o:HO}
theorem Un.any (u:Un fs ex H H1 h h1) {b:Addr} {ob:Obj} (q:h.get? b=some ob) (n:H b=none) (hx:b ∉ ex):∃ sl,h1.get? b=some { ob with slots:=sl }:=by
 by_cases hb:b ∈ fs
 ·exact u.slot b ob q n hb hx
 ·exact ⟨ob.slots,u.keep b ob q n hb hx⟩
theorem Un.trans (a:Un fs ex H H1 h h1) (b:Un fs ex H1 H2 h1 h2):Un fs ex H H2 h h2 where
 keep:=fun c ob q n hc hx=>b.keep c ob (a.keep c ob q n hc hx) (a.free c ob q n hx) hc hx
 slot:=fun c ob q n hc hx=>by
  obtain ⟨sl,e1⟩:=a.slot c ob q n hc hx
  obtain ⟨sl',e2⟩:=b.slot c _ e1 (a.free c ob q n hx) hc hx
  exact ⟨sl',e2⟩
 free:=fun c ob q n hx=>by
  obtain ⟨o',e1⟩:=a.there c ob q hx
  exact b.free c o' e1 (a.free c ob q n hx) hx
 there:=fun c ob q hx=>by
  obtain ⟨o',e1⟩:=a.there c ob q hx
  exact b.there c o' e1 hx
 tups:=fun c xs q=>b.tups c xs (a.tups c xs q)
 frzs:=fun c ob xs q=>b.frzs c ob xs (a.frzs c ob xs q)
 tbls:=fun c ps q=>by
  obtain ⟨m1,e1⟩:=a.tbls c ps q
  obtain ⟨m2,e2⟩:=b.tbls c _ e1
  exact ⟨m1 ++ m2,by rw [e2,Array.append_assoc]⟩
theorem Un.kept (k:∀ b u,h.get? b=some u→h'.get? b=some u):Un fs ex H H h h' :=
 ⟨fun b ob q _ _ _=>k b ob q,fun b ob q _ _ _=>⟨ob.slots,k b ob q⟩,fun _ _ _ n _=>n,fun b ob q _=>⟨ob,k b ob q⟩,fun _ _ q=>q,fun _ _ _ q=>q,fun _ ps q=>⟨#[],by rw [q];simp⟩⟩
theorem Un.refl:Un fs ex H H h h:=Un.kept fun _ _ q=>q
theorem Un.laid (k:∀ b u,h.get? b=some u→h'.get? b=some u) (hp:h.objs.size ≤ a) (hn:H a=none):Un fs ex H (upd H a o) h h' where
 keep:=fun b u q _ _ _=>k b u q
 slot:=fun b u q _ _ _=>⟨u.slots,k b u q⟩
 free:=fun b u q n _=>by rw [zan (Nat.ne_of_lt (Nat.lt_of_lt_of_le (Heap.lt_size q) hp))];exact n
 there:=fun b u q _=>⟨u,k b u q⟩
 tups:=fun b xs q=>by rw [zan (zaz q hn)];exact q
 frzs:=fun b u xs q=>by rw [zan (zaz q hn)];exact q
 tbls:=fun b ps q=>⟨#[],by rw [zan (zaz q hn),q];simp⟩
theorem Un.write (mu:Mut (H x)) (he:e=x∨H e=some (.own x)) (k:∀ b u,b ≠ e→h.get? b=some u→h'.get? b=some u) (heo:∃ u,h'.get? e=some u):Un fs ex H (upd H x o) h h':=by
 have hx:∀ b,H b=none→b ≠ x:=fun b n z=>by subst z;rw [n] at mu;exact mu
 have hb:∀ b,H b=none→b ≠ e:=fun b n z=>by
  subst z
  rcases he with r | r
  ·exact hx b n r
  ·rw [n] at r;cases r
 have hm:∀ b u,H b=some u→¬ Mut (some u)→b ≠ x:=fun b u q nm z=>by subst z;rw [q] at mu;exact nm mu
 refine ⟨fun b u q n _ _=>k b u (hb b n) q,fun b u q n _ _=>⟨u.slots,k b u (hb b n) q⟩,fun b u q n _=>by rw [zan (hx b n)];exact n,fun b u q _=>?_,
  fun b xs q=>by rw [zan (hm b _ q fun z=>z)];exact q,fun b u xs q=>by rw [zan (hm b _ q fun z=>z)];exact q,fun b ps q=>⟨#[],by rw [zan (hm b _ q fun z=>z),q];simp⟩⟩
 by_cases hbe:b=e
 ·subst hbe;exact heo
 ·exact ⟨u,k b u hbe q⟩
theorem Un.mono (u:Un fs ex H H1 h h1) (hs:∀ b ∈ fs,b ∈ fs') (hx:∀ b ∈ ex,b ∈ ex'):Un fs' ex' H H1 h h1 :=
 ⟨fun b ob q n hb he=>u.keep b ob q n (fun z=>hb (hs b z)) fun z=>he (hx b z),fun _ _ q n _ he=>u.any q n fun z=>he (hx _ z),fun b ob q n he=>u.free b ob q n fun z=>he (hx b z),fun b ob q he=>u.there b ob q fun z=>he (hx b z),u.tups,u.frzs,u.tbls⟩
end
def trk (h:Heap) (H:Hp):List Addr:=(List.range h.objs.size).filter fun a=>(H a).isSome
def hidT (h:Heap) (H:Hp):Heap:=PySem.W.hideAll h (trk h H)
theorem zr1 (h:Heap) (H:Hp):(hidT h H).objs.size=h.objs.size:=PySem.W.hideAll_size _ _
theorem ztI {h:Heap} {H:Hp} {b:Addr} {o:Obj} (e:h.get? b=some o) (n:H b=none):(hidT h H).get? b=some o :=
 PySem.W.hideAll_get _ e fun hm=>by
  have q:(H b).isSome=true:=(List.mem_filter.mp hm).2
  rw [n] at q;simp at q
theorem zvx {h:Heap} {H:Hp} {b:Addr} {o:Obj} (e:(hidT h H).get? b=some o):h.get? b=some o∧H b=none:=by
 have e':h.get? b=some o:=PySem.W.of_hideAll (trk h H) e
 refine ⟨e',?_⟩
 cases q:H b with
 | none=>rfl
 | some x =>
  have hm:b ∈ trk h H:=List.mem_filter.mpr ⟨List.mem_range.mpr (Heap.lt_size e'),by simp [q]⟩
  have z:(hidT h H).get? b=none:=PySem.W.hideAll_none (trk h H) hm
  rw [z] at e;cases e
def zwy (g h:Heap) (L:Addr):List (Addr × Obj):=(List.range h.objs.size).filterMap fun a=>if a=L∨(g.get? a).isSome=true then none else (h.get? a).map fun o=>(a,o)
def rest (g h:Heap) (L d:Addr):List (Addr × Obj):=(zwy g h L).filter fun p=>decide (p.1 ≠ d)
end L2
namespace L2
open PySem PySem.Spec PyProof.Rows
structure Mod (K:PySem.W.Frag) (mg:Str→Option Value) (base:Heap):Prop where
 kin:K.In base
 glob:base.Ns mainGlobals mg
 blt:∃ mb,base.Ns builtinsNs mb∧∀ x:Str,x ≠ "__name__"→mb x=bootBuiltins x
 nolimit:base.NoLimit
structure Cx where
 prog:Program
 w:World
 K:PySem.W.Frag
 mg:Str→Option Value
 base:Heap
 A:Around
 N:List Str
 s₀:Shared
 H₀:Hp
 env:Env
 outer:List Env
 stack:List Env
 ex:List Addr
 fn:Str→Bool
 calm:Bool
 pn:List (Addr × Obj)
 xe:Value→Shared→Prop
def frs (l:List Env):List Addr:=l.filterMap (·.frame)
abbrev Cx.fs (X:Cx):List Addr:=frs X.outer
def Vis (sc:Scope) (x:Str):Prop:=sc.names.lookup x=some .local∨sc.names.lookup x=some .cell∨sc.names.lookup x=some .free
def Loc (sc:Scope) (x:Str):Prop:=sc.names.lookup x=some .local∨sc.names.lookup x=some .cell
def Look (env:Env) (h:Heap) (m:Str→Option Value) (x:Str) (u:Value):Prop :=
 (env.kindOf x=some .local∧m x=some u)∨((env.kindOf x=some .cell∨env.kindOf x=some .free)∧∃ c,env.cells.lookup x=some c∧h.IsCell c (some u))
structure Cx.Ok (X:Cx):Prop where
 mod:Mod X.K X.mg X.base
 kind:X.env.scope.kind = .function
 glob:X.env.globals=mainGlobals
 blt:X.env.builtins=builtinsNs
 above:X.s₀.heap.objs.size ≤ X.env.locals
 inj:∀ x y c,X.env.cells.lookup x=some c→X.env.cells.lookup y=some c→x=y
 has:∀ x,(X.env.kindOf x=some .cell∨X.env.kindOf x=some .free)→∃ c,X.env.cells.lookup x=some c
 cab:∀ x c,X.fn x=true→X.env.cells.lookup x=some c→X.s₀.heap.objs.size ≤ c
 hd:X.calm=true→X.A.handled=none
 frames:X.A.frames=some X.stack
 stk:X.stack=X.outer∨(X.stack=X.env :: X.outer∧X.env.frame=some X.env.locals)
 exf:∀ b ∈ X.ex,b ≠ X.env.locals∧∀ x c,X.env.cells.lookup x=some c→c ≠ b
 bs:∀ b o,X.base.get? b=some o→X.s₀.heap.get? b=some o∧X.H₀ b=none
 bsz:X.base.objs.size ≤ X.s₀.heap.objs.size
 noex:∀ b o,X.base.get? b=some o→b ∉ X.ex
 exfs:∀ b ∈ X.ex,b ∉ X.fs
 funs:X.s₀.heap.FunFrames X.base X.outer
 frf:∀ b ∈ X.fs,X.H₀ b=none
structure Inv (X:Cx) (pins:List (Addr × Obj)) (σ:List (Option V)) (H:Hp) (s:Shared):Prop where
 ok:X.Ok
 os:s.os=X.s₀.os
 bare:AllBare s.gens
 base:Un X.fs X.ex X.H₀ H X.s₀.heap s.heap
 loc:∃ m,s.heap.Ns X.env.locals m∧∀ (i:Nat) (x:Str) (v:V),X.N[i]? = some x→σ[i]? = some (some v)→Vis X.env.scope x→∃ u,RelV v u∧Look X.env s.heap m x u
 cell:∀ x c,X.env.cells.lookup x=some c→∃ v,s.heap.IsCell c v
 free:H X.env.locals=none
 freeC:∀ x c,X.env.cells.lookup x=some c→H c=none
 pin:∀ p ∈ X.pn ++ pins,s.heap.get? p.1=some p.2∧H p.1=none∧p.1 ≠ X.env.locals∧p.1 ∉ X.fs∧∀ v,p.2.data ≠ .cell v
 hok:HOk X.prog X.w H s.heap
 len:σ.length=X.N.length
section
variable {X:Cx} {pins:List (Addr × Obj)} {σ:List (Option V)} {H H':Hp} {s:Shared} {h':Heap}
theorem Cx.Ok.nofr (ok:X.Ok) {b:Addr} {o:Obj} (e:X.base.get? b=some o):b ∉ X.fs:=fun hb=>by
 have:=(ok.funs.mem hb).1
 rw [e] at this;cases this
theorem Inv.bs (I:Inv X pins σ H s):∀ b o,X.base.get? b=some o→s.heap.get? b=some o∧H b=none:=fun b o e =>
 ⟨I.base.keep b o (I.ok.bs b o e).1 (I.ok.bs b o e).2 (I.ok.nofr e) (I.ok.noex b o e),I.base.free b o (I.ok.bs b o e).1 (I.ok.bs b o e).2 (I.ok.noex b o e)⟩
theorem Inv.bk (I:Inv X pins σ H s):∀ b o,X.base.get? b=some o→s.heap.get? b=some o:=fun b o e=>(I.bs b o e).1
theorem Inv.mod (I:Inv X pins σ H s):Mod X.K X.mg X.base:=I.ok.mod
theorem Inv.kIn (I:Inv X pins σ H s):X.K.In s.heap:=I.ok.mod.kin.keeps I.bk
theorem Inv.nolimit (I:Inv X pins σ H s):s.heap.NoLimit:=I.ok.mod.nolimit.keeps I.bk
theorem Inv.lt (I:Inv X pins σ H s):X.env.locals < s.heap.objs.size:=let ⟨_,hn,_⟩:=I.loc;hn.lt
theorem Inv.sz (I:Inv X pins σ H s):X.s₀.heap.objs.size ≤ s.heap.objs.size:=Nat.le_trans I.ok.above (Nat.le_of_lt I.lt)
theorem Inv.nofs (I:Inv X pins σ H s) {a:Addr} (h:s.heap.objs.size ≤ a):a ∉ X.fs:=fun hb=>by
 obtain ⟨_,o,ho,_⟩:=I.ok.funs.mem hb
 exact absurd (Nat.lt_of_lt_of_le (Heap.lt_size ho) (Nat.le_trans I.sz h)) (Nat.lt_irrefl _)
theorem Inv.cne (I:Inv X pins σ H s):∀ x c,X.env.cells.lookup x=some c→c ≠ X.env.locals:=fun x c e z=>by
 obtain ⟨v,o,ho,hd⟩:=I.cell x c e
 obtain ⟨m,⟨o',es,ep,ho',hd',_⟩,_⟩:=I.loc
 rw [z,ho'] at ho;cases ho;rw [hd'] at hd;cases hd
theorem Inv.funs (I:Inv X pins σ H s):s.heap.FunFrames X.base X.outer:=by
 have all:∀ (l:List Env),(∀ b ∈ frs l,b ∈ X.fs)→X.s₀.heap.FunFrames X.base l→s.heap.FunFrames X.base l:=by
  intro l
  induction l with
  | nil=>intro _ _;trivial
  | cons env r ih =>
   intro hs hl
   obtain ⟨hk,⟨L,o,hf,hn,ho,hd⟩,hr⟩:=hl
   have hL:L ∈ X.fs:=hs L (by unfold frs;rw [List.filterMap_cons,hf];exact List.mem_cons_self)
   obtain ⟨sl,e⟩:=I.base.slot L o ho (I.ok.frf L hL) hL fun z=>I.ok.exfs L z hL
   exact ⟨hk,⟨L,_,hf,hn,e,hd⟩,ih (fun b hb=>hs b (by unfold frs;rw [List.filterMap_cons,hf];exact List.mem_cons_of_mem _ hb)) hr⟩
 exact all X.outer (fun _ hb=>hb) I.ok.funs
theorem Inv.stack (I:Inv X pins σ H s):s.heap.FunFrames X.base X.stack:=by
 rcases I.ok.stk with e | ⟨e,hf⟩
 ·rw [e];exact I.funs
 ·rw [e]
  obtain ⟨m,hn,_⟩:=I.loc
  refine .cons (by rw [I.ok.kind];decide) hf hn ?_ I.funs
  exact Heap.get?_none_of_le (Nat.le_trans I.ok.bsz I.ok.above)
theorem Inv.zmF (I:Inv X pins σ H s):∀ b ∈ frs X.stack,b ∈ X.env.locals :: X.fs:=fun b hb=>by
 rcases I.ok.stk with e | ⟨e,hf⟩
 ·rw [e] at hb;exact List.mem_cons_of_mem _ hb
 ·rw [e] at hb
  unfold frs at hb
  rw [List.filterMap_cons,hf] at hb
  exact hb
theorem Inv.znm (I:Inv X pins σ H s):∀ b ∈ frs X.stack,H b=none:=fun b hb=>by
 rcases List.mem_cons.mp (I.zmF b hb) with e | hb
 ·rw [e];exact I.free
 ·obtain ⟨_,o,ho,_⟩:=I.ok.funs.mem hb
  exact I.base.free b o ho (I.ok.frf b hb) fun z=>I.ok.exfs b z hb
theorem Inv.step {g':Array GenState} {t':Nat} {d':Drawn} {ch:List Addr} (I:Inv X pins σ H s)
  (hch:∀ b ∈ ch,(b ∈ X.ex∨X.s₀.heap.objs.size ≤ b)∧b ≠ X.env.locals∧(∀ x c,X.env.cells.lookup x=some c→c ≠ b)∧∀ p ∈ X.pn ++ pins,p.1 ≠ b)
  (keep:∀ b o,b ≠ X.env.locals→b ∉ X.fs→b ∉ ch→s.heap.get? b=some o→H b=none→h'.get? b=some o)
  (slot:∀ b o,b ≠ X.env.locals→b ∈ X.fs→b ∉ ch→s.heap.get? b=some o→H b=none→∃ sl,h'.get? b=some { o with slots:=sl }) (free:∀ b o,b ∉ ch→s.heap.get? b=some o→H b=none→H' b=none)
  (there:∀ b o,b ∉ ch→s.heap.get? b=some o→∃ o',h'.get? b=some o')
  (tups:∀ b xs,H b=some (.tup xs)→H' b=some (.tup xs)) (frzs:∀ b o u,H b=some (.frz o u)→H' b=some (.frz o u)) (tbls:∀ b ps,H b=some (.tbl ps)→∃ more,H' b=some (.tbl (ps ++ more)))
  (ns:∀ m,s.heap.Ns X.env.locals m→h'.Ns X.env.locals m) (hok:HOk X.prog X.w H' h') (hg:AllBare g') :
  Inv X pins σ H' { s with heap:=h',gens:=g',drawn:=d',toks:=t' }:=by
 have neL:∀ b o,X.s₀.heap.get? b=some o→b ≠ X.env.locals:=fun b o e=>Nat.ne_of_lt (Nat.lt_of_lt_of_le (Heap.lt_size e) I.ok.above)
 have neC:∀ b o,X.s₀.heap.get? b=some o→b ∉ X.ex→b ∉ ch:=fun b o e hx hb=>by
  rcases (hch b hb).1 with z | z
  ·exact hx z
  ·exact absurd (Nat.lt_of_lt_of_le (Heap.lt_size e) z) (Nat.lt_irrefl _)
 have cellK:∀ x c,X.env.cells.lookup x=some c→∀ v,s.heap.IsCell c v→h'.IsCell c v:=fun x c e v ⟨o,ho,hd⟩=>by
  have nch:c ∉ ch:=fun z=>(hch c z).2.2.1 x c e rfl
  by_cases hc:c ∈ X.fs
  ·obtain ⟨sl,q⟩:=slot c o (I.cne x c e) hc nch ho (I.freeC x c e)
   exact ⟨_,q,hd⟩
  ·exact ⟨o,keep c o (I.cne x c e) hc nch ho (I.freeC x c e),hd⟩
 refine ⟨I.ok,I.os,hg,⟨fun b o e n hb hx=>?_,fun b o e n hb hx=>?_,fun b o e n hx=>?_,fun b o e hx=>?_,fun b xs e=>tups b xs (I.base.tups b xs e),fun b o xs e=>frzs b o xs (I.base.frzs b o xs e),fun b ps e=>?_⟩,?_,fun x c e=>?_,?_,fun x c e=>?_,fun p hp=>?_,hok,I.len⟩
 ·exact keep b o (neL b o e) hb (neC b o e hx) (I.base.keep b o e n hb hx) (I.base.free b o e n hx)
 ·obtain ⟨sl,e1⟩:=I.base.slot b o e n hb hx
  obtain ⟨sl',e2⟩:=slot b _ (neL b o e) hb (neC b o e hx) e1 (I.base.free b o e n hx)
  exact ⟨sl',e2⟩
 ·obtain ⟨o',e1⟩:=I.base.there b o e hx
  exact free b o' (neC b o e hx) e1 (I.base.free b o e n hx)
 ·obtain ⟨o',e1⟩:=I.base.there b o e hx
  exact there b o' (neC b o e hx) e1
 ·obtain ⟨m1,e1⟩:=I.base.tbls b ps e
  obtain ⟨m2,e2⟩:=tbls b _ e1
  exact ⟨m1 ++ m2,by rw [e2,Array.append_assoc]⟩
 ·obtain ⟨m,hn,hl⟩:=I.loc
  refine ⟨m,ns m hn,fun i x v e1 e2 e3=>?_⟩
  obtain ⟨u,r,l⟩:=hl i x v e1 e2 e3
  refine ⟨u,r,?_⟩
  rcases l with l | ⟨k,c,e,z⟩
  ·exact .inl l
  ·exact .inr ⟨k,c,e,cellK x c e _ z⟩
 ·obtain ⟨v,z⟩:=I.cell x c e
  exact ⟨v,cellK x c e v z⟩
 ·obtain ⟨m,⟨o,_,_,ho,_⟩,_⟩:=I.loc
  exact free _ o (fun z=>(hch _ z).2.1 rfl) ho I.free
 ·obtain ⟨v,o,ho,hd⟩:=I.cell x c e
  exact free c o (fun z=>(hch c z).2.2.1 x c e rfl) ho (I.freeC x c e)
 ·obtain ⟨e,n,ne,nf,d⟩:=I.pin p hp
  have nch:p.1 ∉ ch:=fun z=>(hch p.1 z).2.2.2 p hp rfl
  exact ⟨keep p.1 p.2 ne nf nch e n,free p.1 p.2 nch e n,ne,nf,d⟩
theorem Inv.un {t':Nat} (I:Inv X pins σ H s) (u:Un X.fs [] H H' s.heap h') (hok:HOk X.prog X.w H' h'):Inv X pins σ H' { s with heap:=h',toks:=t' }:=by
 obtain ⟨m,⟨o,es,ep,ho,r⟩,_⟩:=id I.loc
 obtain ⟨sl,hL⟩:=u.any ho I.free (by simp)
 exact I.step (g':=s.gens) (d':=s.drawn) (ch:=[]) (fun _ z=>nomatch z) (fun b o _ hb _ e n=>u.keep b o e n hb (by simp)) (fun b o _ hb _ e n=>u.slot b o e n hb (by simp)) (fun b o _ e n=>u.free b o e n (by simp)) (fun b o _ e=>u.there b o e (by simp)) u.tups u.frzs u.tbls (fun m' hm=>by
  obtain ⟨o',es',ep',ho',r'⟩:=hm
  rw [ho] at ho';cases ho'
  exact ⟨_,es',ep',hL,r'⟩) hok I.bare
theorem Inv.call {g':Array GenState} {t':Nat} {d':Drawn} {ch:List Addr} (I:Inv X pins σ H s) (u:Un (frs X.stack) ch H H' s.heap h') (hok:HOk X.prog X.w H' h') (hg:AllBare g')
  (hch:∀ b ∈ ch,(b ∈ X.ex∨X.s₀.heap.objs.size ≤ b)∧b ≠ X.env.locals∧(∀ x c,X.env.cells.lookup x=some c→c ≠ b)∧∀ p ∈ X.pn ++ pins,p.1 ≠ b) :
  Inv X pins σ H' { s with heap:=h',gens:=g',drawn:=d',toks:=t' }:=by
 obtain ⟨m,⟨o,es,ep,ho,r⟩,_⟩:=id I.loc
 obtain ⟨sl,hL⟩:=u.any ho I.free fun z=>(hch _ z).2.1 rfl
 exact I.step (ch:=ch) hch (fun b o hL hb hc e n=>u.keep b o e n (fun z=>(List.mem_cons.mp (I.zmF b z)).elim hL hb) hc) (fun b o _ _ hc e n=>u.any e n hc) (fun b o hc e n=>u.free b o e n hc) (fun b o hc e=>u.there b o e hc) u.tups u.frzs u.tbls (fun m' hm=>by
  obtain ⟨o',es',ep',ho',r'⟩:=hm
  rw [ho] at ho';cases ho'
  exact ⟨_,es',ep',hL,r'⟩) hok hg
theorem Inv.turned {t':Nat} {it:Addr} (I:Inv X pins σ H s) (k:∀ b o,b ≠ it→s.heap.get? b=some o→h'.get? b=some o) (hn:H it=none) (hL:it ≠ X.env.locals)
  (h1:it ∈ X.ex∨X.s₀.heap.objs.size ≤ it) (h2:∀ x c,X.env.cells.lookup x=some c→c ≠ it) (h3:∀ p ∈ X.pn ++ pins,p.1 ≠ it):Inv X pins σ H { s with heap:=h',toks:=t' }:=by
 have nit:∀ b u,H b=some u→b ≠ it:=fun b u e z=>by rw [z,hn] at e;cases e
 refine I.step (g':=s.gens) (d':=s.drawn) (ch:=[it]) (fun b hb=>?_) (fun b o _ _ hc e _=>k b o (fun z=>hc (by simp [z])) e) (fun b o _ _ hc e _=>⟨o.slots,k b o (fun z=>hc (by simp [z])) e⟩) (fun _ _ _ _ n=>n)
  (fun b o hc e=>⟨o,k b o (fun z=>hc (by simp [z])) e⟩) (fun _ _ e=>e) (fun _ _ _ e=>e) (fun b ps e=>⟨#[],by rw [e];simp⟩) (fun m hm=>?_) (fun b u e=>?_) I.bare
 ·have e:b=it:=by simpa using hb
  subst e
  exact ⟨h1,hL,h2,h3⟩
 ·obtain ⟨o,es,ep,ho,r⟩:=hm
  exact ⟨o,es,ep,k _ o (Ne.symm hL) ho,r⟩
 ·refine (I.hok b u e).stay (fun c v hc q=>k c v ?_ q) (fun _ q=>q) fun _ _ q=>q
  rcases hc with z | z
  ·rw [z];exact nit b u e
  ·exact nit c _ z
theorem Inv.tok (I:Inv X pins σ H s) (t:Nat):Inv X pins σ H { s with toks:=t }:=I.un (h':=s.heap) (t':=t) Un.refl I.hok
theorem Inv.kept {t':Nat} (I:Inv X pins σ H s) (k:∀ b u,s.heap.get? b=some u→h'.get? b=some u):Inv X pins σ H { s with heap:=h',toks:=t' }:=I.un (Un.kept k) (I.hok.kept k)
theorem Inv.laid {a:Addr} {o:HO} {t':Nat} (I:Inv X pins σ H s) (k:∀ b u,s.heap.get? b=some u→h'.get? b=some u) (hp:s.heap.objs.size ≤ a) (new:zc6 X.prog X.w (upd H a o) h' a o) :
  Inv X pins σ (upd H a o) { s with heap:=h',toks:=t' }:=I.un (Un.laid k hp (I.hok.fresh hp)) (I.hok.laid k hp new)
theorem Inv.write {x e:Addr} {o:HO} {t':Nat} (I:Inv X pins σ H s) (mu:Mut (H x)) (he:e=x∨H e=some (.own x)) (k:∀ b u,b ≠ e→s.heap.get? b=some u→h'.get? b=some u) (heo:∃ u,h'.get? e=some u)
  (new:zc6 X.prog X.w (upd H x o) h' x o):Inv X pins σ (upd H x o) { s with heap:=h',toks:=t' }:=I.un (Un.write mu he k heo) (I.hok.write mu he k heo new)
theorem Inv.znQ {pins':List (Addr × Obj)} (I:Inv X pins σ H s) (h:∀ p ∈ pins',s.heap.get? p.1=some p.2∧H p.1=none∧p.1 ≠ X.env.locals∧p.1 ∉ X.fs∧∀ v,p.2.data ≠ .cell v):Inv X pins' σ H s :=
 ⟨I.ok,I.os,I.bare,I.base,I.loc,I.cell,I.free,I.freeC,fun p hp=>(List.mem_append.mp hp).elim (fun z=>I.pin p (List.mem_append_left _ z)) (h p),I.hok,I.len⟩
theorem zlu {N:List Str} (hN:N.Nodup) {i j:Nat} {x:Str} (a:N[i]? = some x) (b:N[j]? = some x):i=j:=by
 obtain ⟨h1,e1⟩:=List.getElem?_eq_some_iff.mp a
 obtain ⟨h2,e2⟩:=List.getElem?_eq_some_iff.mp b
 exact (List.getElem_inj hN).mp (e1.trans e2.symm)
theorem zsJ {M:Model} {A:Around} {E:Value→Shared→Prop} {i:Nat} {x:Str} {v:V} {u:Value} {Q:Unit→Shared→Prop} (I:Inv X pins σ H s) (hN:X.N.Nodup) (hi:X.N[i]? = some x) (hx:Loc X.env.scope x) (r:RelV v u)
  (h:∀ s',Inv X pins (σ.set i (some v)) H s'→(∃ a,Heap.SameBut a s.heap s'.heap∧(a=X.env.locals∨X.env.cells.lookup x=some a))→Q () s') (hf:X.fn x=true∨X.env.scope.names.lookup x=some .local:=by first | exact .inl rfl | exact .inr rfl | assumption):wpAny M A (storeName X.env x u) Q E s:=by
 obtain ⟨m,hn,hl⟩:=id I.loc
 have hcls:(X.env.scope.kind == .class || (X.env.scope.kind == .module && X.env.locals != X.env.globals))=false:=by rw [I.ok.kind];rfl
 have hiσ:i < σ.length:=by rw [I.len];exact (List.getElem?_eq_some_iff.mp hi).1
 have cne:=I.cne
 have tracked:∀ {a:Addr} {h':Heap},(∃ o,s.heap.get? a=some o∧H a=none)→Heap.SameBut a s.heap h'→HOk X.prog X.w H h':=fun {a h'} ha hs b ob e=>by
  obtain ⟨_,_,hfree⟩:=ha
  refine (I.hok b ob e).stay (fun c w' hc q=>(hs.2 c ?_).trans q) (fun _ q=>q) fun _ _ q=>q
  rintro rfl
  rcases hc with rfl | hc
  ·rw [hfree] at e;cases e
  ·rw [hfree] at hc;cases hc
 rcases hx with hk | hk
 ·refine wpAny_storeName_local hk hn (fun h' hn' hs=>?_) hcls
  obtain ⟨oL,_,_,hoL,_⟩:=id hn
  refine h _ ⟨I.ok,I.os,I.bare,⟨fun b o e n hb hx=>?_,fun b o e n hb hx=>?_,I.base.free,fun b o e hx=>?_,I.base.tups,I.base.frzs,I.base.tbls⟩,⟨_,hn',fun j y v' e1 e2 e3=>?_⟩,fun y c e=>?_,I.free,I.freeC,fun p hp=>?_,tracked ⟨oL,hoL,I.free⟩ hs,by simpa using I.len⟩ ⟨_,hs, .inl rfl⟩
  ·exact (hs.2 b (Nat.ne_of_lt (Nat.lt_of_lt_of_le (Heap.lt_size e) I.ok.above))).trans (I.base.keep b o e n hb hx)
  ·obtain ⟨sl,e1⟩:=I.base.slot b o e n hb hx
   exact ⟨sl,(hs.2 b (Nat.ne_of_lt (Nat.lt_of_lt_of_le (Heap.lt_size e) I.ok.above))).trans e1⟩
  ·obtain ⟨o',e1⟩:=I.base.there b o e hx
   exact ⟨o',(hs.2 b (Nat.ne_of_lt (Nat.lt_of_lt_of_le (Heap.lt_size e) I.ok.above))).trans e1⟩
  ·by_cases hj:j=i
   ·subst hj
    rw [hi] at e1;cases e1
    rw [List.getElem?_set_self hiσ] at e2
    cases e2
    exact ⟨u,r, .inl ⟨hk,by simp⟩⟩
   ·rw [List.getElem?_set_ne (Ne.symm hj)] at e2
    obtain ⟨u',r',q⟩:=hl j y v' e1 e2 e3
    refine ⟨u',r',?_⟩
    rcases q with ⟨k,e⟩ | ⟨k,c,e,z⟩
    ·refine .inl ⟨k,?_⟩
     have:y ≠ x:=fun e=>hj (zlu hN e1 (e ▸ hi))
     simp [this,e]
    ·exact .inr ⟨k,c,e,z.sameBut hs (cne y c e)⟩
  ·obtain ⟨w',z⟩:=I.cell y c e
   exact ⟨w',z.sameBut hs (cne y c e)⟩
  ·obtain ⟨e,n,ne,nf,d⟩:=I.pin p hp
   exact ⟨(hs.2 p.1 ne).trans e,n,ne,nf,d⟩
 ·have hfn:X.fn x=true:=by
   rcases hf with z | z
   ·exact z
   ·rw [z] at hk;cases hk
  obtain ⟨c,hc⟩:=I.ok.has x (.inl hk)
  obtain ⟨w',z⟩:=I.cell x c hc
  refine wpAny_storeName_cell I.ok.kind hk hc z (fun h' hc' hs=>?_)
  obtain ⟨oc,hoc,hocd⟩:=id z
  refine h { s with heap:=h' } ⟨I.ok,I.os,I.bare,⟨fun b o e n hb hx=>?_,fun b o e n hb hx=>?_,I.base.free,fun b o e hx=>?_,I.base.tups,I.base.frzs,I.base.tbls⟩,⟨m,hn.sameBut hs (Ne.symm (cne x c hc)),fun j y v' e1 e2 e3=>?_⟩,fun y c' e=>?_,I.free,I.freeC,fun p hp=>?_,tracked ⟨oc,hoc,I.freeC x c hc⟩ hs,by simpa using I.len⟩ ⟨c,hs, .inr hc⟩
  ·exact (hs.2 b (Nat.ne_of_lt (Nat.lt_of_lt_of_le (Heap.lt_size e) (I.ok.cab x c hfn hc)))).trans (I.base.keep b o e n hb hx)
  ·obtain ⟨sl,e1⟩:=I.base.slot b o e n hb hx
   exact ⟨sl,(hs.2 b (Nat.ne_of_lt (Nat.lt_of_lt_of_le (Heap.lt_size e) (I.ok.cab x c hfn hc)))).trans e1⟩
  ·obtain ⟨o',e1⟩:=I.base.there b o e hx
   exact ⟨o',(hs.2 b (Nat.ne_of_lt (Nat.lt_of_lt_of_le (Heap.lt_size e) (I.ok.cab x c hfn hc)))).trans e1⟩
  ·by_cases hj:j=i
   ·subst hj
    rw [hi] at e1;cases e1
    rw [List.getElem?_set_self hiσ] at e2
    cases e2
    exact ⟨u,r, .inr ⟨.inl hk,c,hc,hc'⟩⟩
   ·rw [List.getElem?_set_ne (Ne.symm hj)] at e2
    obtain ⟨u',r',q⟩:=hl j y v' e1 e2 e3
    refine ⟨u',r',?_⟩
    rcases q with q | ⟨k,c',e,z'⟩
    ·exact .inl q
    ·refine .inr ⟨k,c',e,z'.sameBut hs ?_⟩
     rintro rfl
     exact hj (zlu hN e1 (I.ok.inj _ _ _ e hc ▸ hi))
  ·by_cases hcc:c'=c
   ·subst hcc;exact ⟨_,hc'⟩
   ·obtain ⟨w2,z2⟩:=I.cell y c' e
    exact ⟨w2,z2.sameBut hs hcc⟩
  ·obtain ⟨e,n,ne,nf,d⟩:=I.pin p hp
   refine ⟨(hs.2 p.1 ?_).trans e,n,ne,nf,d⟩
   intro q
   rw [q,hoc] at e
   have q':oc=p.2:=Option.some.inj e
   exact d w' (by rw [← q'];exact hocd)
theorem ziX {M:Model} {A:Around} {E:Value→Shared→Prop} {i:Nat} {x:Str} {v:V} {u:Value} {Q:Unit→Shared→Prop} (I:Inv X pins σ H s) (hN:X.N.Nodup) (hi:X.N[i]? = some x) (hx:Loc X.env.scope x) (r:RelV v u)
  (h:∀ s',Inv X pins (σ.set i (some v)) H s'→Q () s') (hf:X.fn x=true∨X.env.scope.names.lookup x=some .local:=by first | exact .inl rfl | exact .inr rfl | assumption):wpAny M A (storeName X.env x u) Q E s :=
 zsJ I hN hi hx r (fun s' I' _=>h s' I') hf
theorem Inv.zxa {s':Shared} {ch:List Addr} (I:Inv X pins σ H s) (ho:s'.os=s.os) (u:Un (frs X.stack) ch H H' s.heap s'.heap) (hok:HOk X.prog X.w H' s'.heap) (hg:AllBare s'.gens)
  (hch:∀ b ∈ ch,(b ∈ X.ex∨X.s₀.heap.objs.size ≤ b)∧b ≠ X.env.locals∧(∀ x c,X.env.cells.lookup x=some c→c ≠ b)∧∀ p ∈ X.pn ++ pins,p.1 ≠ b):Inv X pins σ H' s':=by
 obtain ⟨h',g',d',t',o'⟩:=s'
 have e:o'=s.os:=ho
 subst e
 exact I.call (g':=g') (t':=t') (d':=d') u hok hg hch
end
abbrev XK:=Value→Option Addr→Hp→Prop
abbrev St:=List (Option V)
abbrev VK:=V→Hp→Prop
abbrev TE:=St→Hp→VK→Prop
abbrev TT:=St→Hp→(Bool→Hp→Prop)→Prop
abbrev TA:=St→Hp→(List V→Hp→Prop)→Prop
structure Ends where
 nx:St→Hp→Prop
 rt:VK
 bk:St→Hp→Prop:=fun _ _=>False
 ct:St→Hp→Prop:=fun _ _=>False
abbrev TS:=Ends→St→Hp→Prop
def EP (X:Cx) (pins:List (Addr × Obj)) (σ:St) (Q:VK) (u:Value) (s':Shared):Prop:=∃ v H',Inv X pins σ H' s'∧RelV v u∧Q v H'
def TP (X:Cx) (pins:List (Addr × Obj)) (σ:St) (Q:Bool→Hp→Prop) (b:Bool) (s':Shared):Prop:=∃ H',Inv X pins σ H' s'∧Q b H'
def AP (X:Cx) (pins:List (Addr × Obj)) (σ:St) (Q:List V→Hp→Prop) (us:List Value) (s':Shared):Prop:=∃ vs H',Inv X pins σ H' s'∧Vals vs us∧Q vs H'
def SP (X:Cx) (pins:List (Addr × Obj)) (D:Ends) (f:Flow) (s':Shared):Prop :=
 match f with
 | .next=>∃ σ' H',Inv X pins σ' H' s'∧D.nx σ' H'
 | .brk=>∃ σ' H',Inv X pins σ' H' s'∧D.bk σ' H'
 | .cont=>∃ σ' H',Inv X pins σ' H' s'∧D.ct σ' H'
 | .ret u=>∃ v σ' H',Inv X pins σ' H' s'∧RelV v u∧D.rt v H'
def PE (X:Cx) (e:Expr) (t:TE):Prop :=
 ∀ (pins:List (Addr × Obj)) (s:Shared) (σ:St) (H:Hp) (Q:VK),Inv X pins σ H s→t σ H Q→wpAny (model X.prog X.w) X.A (eval e X.env) (EP X pins σ Q) X.xe s
def PT (X:Cx) (e:Expr) (t:TT):Prop :=
 ∀ (pins:List (Addr × Obj)) (s:Shared) (σ:St) (H:Hp) (Q:Bool→Hp→Prop),Inv X pins σ H s→t σ H Q→wpAny (model X.prog X.w) X.A (isTrue e X.env (eval e X.env)) (TP X pins σ Q) X.xe s
def PW (X:Cx) (e:Expr) (t:TT):Prop :=
 ∀ (whole:Sem Value) (pins:List (Addr × Obj)) (s:Shared) (σ:St) (H:Hp) (Q:Bool→Hp→Prop),Inv X pins σ H s→t σ H Q→wpAny (model X.prog X.w) X.A (isTrue e X.env whole) (TP X pins σ Q) X.xe s
theorem PW.pt {X:Cx} {e:Expr} {t:TT} (h:PW X e t):PT X e t:=h _
def PA (X:Cx) (es:List Expr) (t:TA):Prop :=
 ∀ (pos:Pos) (pins:List (Addr × Obj)) (s:Shared) (σ:St) (H:Hp) (Q:List V→Hp→Prop),Inv X pins σ H s→t σ H Q→wpAny (model X.prog X.w) X.A (spliced (backTo pos (starEach es X.env))) (AP X pins σ Q) X.xe s
def PS (X:Cx) (st:Stmt) (t:TS):Prop :=
 ∀ (pins:List (Addr × Obj)) (s:Shared) (σ:St) (H:Hp) (D:Ends),Inv X pins σ H s→t D σ H→wpAny (model X.prog X.w) X.A (exec st X.env) (SP X pins D) X.xe s
def PSs (X:Cx) (st:List Stmt) (t:TS):Prop :=
 ∀ (pins:List (Addr × Obj)) (s:Shared) (σ:St) (H:Hp) (D:Ends),Inv X pins σ H s→t D σ H→wpAny (model X.prog X.w) X.A (execs st X.env) (SP X pins D) X.xe s
theorem thn {α:Type} {t:Sem α} {Q Q':α→Shared→Prop} {M:Model} {A:Around} {E:Value→Shared→Prop} {s:Shared} (h:wpAny M A t Q E s) (hQ:∀ a s,Q a s→Q' a s):wpAny M A t Q' E s:=wpAny_mono h hQ fun _ _ x=>x
end L2
namespace L2
open PySem PySem.Spec PyProof.Rows
section
variable {X:Cx}
def tVar (i:Nat):TE:=fun σ H Q=>∃ v,σ[i]? = some (some v)∧Q v H
def tC (v:V):TE:=fun _ H Q=>Q v H
theorem zvh {i:Nat} {x:Str} {pos:Pos} (hN:X.N[i]? = some x) (hv:Vis X.env.scope x) (hd:(x == ("__debug__" : Str))=false:=by decide) (hcd:(x == ("__classdict__" : Str))=false:=by decide):PE X (.Name x pos) (tVar i):=by
 intro pins s σ H Q I h
 obtain ⟨v,e,h⟩:=h
 obtain ⟨m,hn,hl⟩:=I.loc
 obtain ⟨u,r,l⟩:=hl i x v hN e hv
 have fin:EP X pins σ Q u s:=⟨v,H,I,r,h⟩
 rcases l with ⟨hk,hm⟩ | ⟨hk,c,hc,hcell⟩
 ·exact wpAny_Name (wpAny_loadName_local I.ok.kind hk hn hm fin) hd
 ·rcases hk with hk | hk
  ·exact wpAny_Name (wpAny_loadName_cell I.ok.kind hk hc hcell fin) hd
  ·exact wpAny_Name (wpAny_loadName_free I.ok.kind hk hc hcell fin hcd) hd
theorem zyF {i j pos}:PE X (.Constant (.int i) j pos) (tC (.int i)):=fun _ _ _ H _ I h=>wpAny_Constant_int ⟨.int i,H,I.tok _,⟨_,rfl⟩,h⟩
theorem zz0 {b j pos}:PE X (.Constant (.bool b) j pos) (tC (.bl b)):=fun _ _ _ H _ I h=>Constant_bool ⟨.bl b,H,I,rfl,h⟩
theorem zxR {j pos}:PE X (.Constant .none j pos) (tC .non):=fun _ _ _ H _ I h=>Constant_none ⟨.non,H,I,rfl,h⟩
theorem zyT {x j pos}:PE X (.Constant (.str x) j pos) (tC (.str x)):=fun _ _ _ H _ I h=>Calls.Constant_str ⟨.str x,H,I.tok _,⟨_,rfl⟩,h⟩
def Gl (X:Cx) (x:Str):Prop:=X.env.kindOf x=some .globalImplicit
theorem zh3 {E:Value→Shared→Prop} {pins:List (Addr × Obj)} {s:Shared} {σ:St} {H:Hp} {x:Str} {u:Value} {pos:Pos} {Q:Value→Shared→Prop} (I:Inv X pins σ H s) (hg:Gl X x) (hm:X.mg x=some u) (h:Q u s)
  (hd:(x == ("__debug__" : Str))=false:=by decide):wpAny (model X.prog X.w) X.A (eval (.Name x pos) X.env) Q E s :=
 Calls.Name_function_global I.ok.kind hg (Calls.loadGlobal_global (by rw [I.ok.glob];exact I.mod.glob.keeps I.bk) hm h) hd
theorem zmu {E:Value→Shared→Prop} {pins:List (Addr × Obj)} {s:Shared} {σ:St} {H:Hp} {x:Str} {u:Value} {pos:Pos} {Q:Value→Shared→Prop} (I:Inv X pins σ H s) (hg:Gl X x) (hm:X.mg x=none) (hv:bootBuiltins x=some u) (h:Q u s)
  (hn:x ≠ "__name__":=by decide) (hd:(x == ("__debug__" : Str))=false:=by decide):wpAny (model X.prog X.w) X.A (eval (.Name x pos) X.env) Q E s:=by
 obtain ⟨mb,h1,h2⟩:=I.mod.blt
 exact Calls.Name_function_global I.ok.kind hg (Calls.loadGlobal_builtin (by rw [I.ok.glob];exact I.mod.glob.keeps I.bk) hm (by rw [I.ok.blt];exact h1.keeps I.bk) ((h2 x hn).trans hv) h) hd
theorem zrG {x:Str} {v:V} {u:Value} {pos:Pos} (hg:Gl X x) (hm:X.mg x=some u) (r:RelV v u) (hd:(x == ("__debug__" : Str))=false:=by decide):PE X (.Name x pos) (tC v) :=
 fun _ _ _ H _ I h=>zh3 I hg hm ⟨v,H,I,r,h⟩ hd
theorem zvM {x:Str} {v:V} {u:Value} {pos:Pos} (hg:Gl X x) (hm:X.mg x=none) (hv:bootBuiltins x=some u) (r:RelV v u) (hn:x ≠ "__name__":=by decide) (hd:(x == ("__debug__" : Str))=false:=by decide):PE X (.Name x pos) (tC v) :=
 fun _ _ _ H _ I h=>zmu I hg hm hv ⟨v,H,I,r,h⟩ hn hd
variable {a b:Expr} {ta tb:TE} {pos:Pos}
def tB (t:TE):TT:=fun σ H Q=>t σ H fun x H1=>∃ c,x = .bl c∧Q c H1
theorem zyg {e:Expr} {t:TE} (h:PE X e t) (he:∀ whole,isTrue e X.env whole=(do let v ← whole;standAt e.pos;holding [v] (truthy v)):=by intro _;rfl):PT X e (tB t):=by
 intro pins s σ H Q I hw
 refine isTrue_plain (thn (h pins s σ H _ I hw) fun v s1 ⟨x,H1,I1,r1,q1⟩=>?_) (he _)
 obtain ⟨d,rfl,q⟩:=q1
 cases r1
 exact wpAny_truthy_bool ⟨H1,I1,q⟩
variable {tA tB':TT} {rest:List Expr}
def tAnd (t u:TT):TT:=fun σ H Q=>t σ H fun c H1=>if c=true then u σ H1 Q else Q false H1
def tOr (t u:TT):TT:=fun σ H Q=>t σ H fun c H1=>if c=true then Q true H1 else u σ H1 Q
def tNot (t:TT):TT:=fun σ H Q=>t σ H fun c H1=>Q (!c) H1
theorem pw_and1 (ha:PT X a tA):PW X (.BoolOp .And [a] pos) tA:=by
 intro wh pins s σ H Q I h
 refine isTrue_and (thn (ha pins s σ H Q I h) fun c s1 e=>?_)
 cases c with
 | true=>exact isTrue_and_nil e
 | false=>exact e
theorem pw_or1 (ha:PT X a tA):PW X (.BoolOp .Or [a] pos) tA:=by
 intro wh pins s σ H Q I h
 refine isTrue_or (thn (ha pins s σ H Q I h) fun c s1 e=>?_)
 cases c with
 | false=>exact isTrue_or_nil e
 | true=>exact e
theorem pw_and (ha:PT X a tA) (hb:PW X (.BoolOp .And (b :: rest) pos) tB'):PW X (.BoolOp .And (a :: b :: rest) pos) (tAnd tA tB'):=by
 intro wh pins s σ H Q I h
 refine isTrue_and (thn (ha pins s σ H _ I h) fun c s1 ⟨H1,I1,q1⟩=>?_)
 cases c with
 | true=>exact hb wh pins s1 σ H1 Q I1 q1
 | false=>exact ⟨H1,I1,q1⟩
theorem pw_or (ha:PT X a tA) (hb:PW X (.BoolOp .Or (b :: rest) pos) tB'):PW X (.BoolOp .Or (a :: b :: rest) pos) (tOr tA tB'):=by
 intro wh pins s σ H Q I h
 refine isTrue_or (thn (ha pins s σ H _ I h) fun c s1 ⟨H1,I1,q1⟩=>?_)
 cases c with
 | true=>exact ⟨H1,I1,q1⟩
 | false=>exact hb wh pins s1 σ H1 Q I1 q1
theorem zyQ (ha:PT X a tA):PT X (.UnaryOp .Not a pos) (tNot tA):=by
 intro pins s σ H Q I h
 exact isTrue_not (ha pins s σ H (fun c H1=>Q (!c) H1) I h)
def zzA (ta tb:TE):TE:=fun σ H Q=>ta σ H fun x H1=>∃ c,x = .bl c∧if c=true then tb σ H1 Q else Q (.bl false) H1
def tOrV (ta tb:TE):TE:=fun σ H Q=>ta σ H fun x H1=>∃ c,x = .bl c∧if c=true then Q (.bl true) H1 else tb σ H1 Q
def zzN (ta:TE):TE:=fun σ H Q=>ta σ H fun x H1=>∃ c,x = .bl c∧Q (.bl (!c)) H1
theorem zxV {op} {t:TE} (h:PE X a t):PE X (.BoolOp op [a] pos) t:=fun pins s σ H Q I hw=>BoolOp_one (h pins s σ H Q I hw)
theorem zyD (ha:PE X a ta) (hb:PE X (.BoolOp .And (b :: rest) pos) tb):PE X (.BoolOp .And (a :: b :: rest) pos) (zzA ta tb):=by
 intro pins s σ H Q I h
 refine BoolOp_and (thn (ha pins s σ H _ I h) fun v s1 ⟨x,H1,I1,r1,q1⟩=>?_)
 obtain ⟨c,rfl,q1⟩:=q1
 cases r1
 refine wpAny_truthy_bool ?_
 cases c with
 | true=>exact hb pins s1 σ H1 Q I1 q1
 | false=>exact ⟨.bl false,H1,I1,rfl,q1⟩
theorem zzG (ha:PE X a ta) (hb:PE X (.BoolOp .Or (b :: rest) pos) tb):PE X (.BoolOp .Or (a :: b :: rest) pos) (tOrV ta tb):=by
 intro pins s σ H Q I h
 refine BoolOp_or (thn (ha pins s σ H _ I h) fun v s1 ⟨x,H1,I1,r1,q1⟩=>?_)
 obtain ⟨c,rfl,q1⟩:=q1
 cases r1
 refine wpAny_truthy_bool ?_
 cases c with
 | false=>exact hb pins s1 σ H1 Q I1 q1
 | true=>exact ⟨.bl true,H1,I1,rfl,q1⟩
theorem zy0 (ha:PE X a ta):PE X (.UnaryOp .Not a pos) (zzN ta):=by
 intro pins s σ H Q I h
 refine UnaryOp_ (thn (ha pins s σ H _ I h) fun v s1 ⟨x,H1,I1,r1,q1⟩=>?_)
 obtain ⟨c,rfl,q1⟩:=q1
 cases r1
 exact not_of (wpAny_truthy_bool ⟨.bl (!c),H1,I1,rfl,q1⟩)
def tIf (t:TT) (ta tb:TE):TE:=fun σ H Q=>t σ H fun c H1=>if c=true then ta σ H1 Q else tb σ H1 Q
theorem ztF {c:Expr} (hc:PT X c tA) (ha:PE X a ta) (hb:PE X b tb):PE X (.IfExp c a b pos) (tIf tA ta tb):=by
 intro pins s σ H Q I h
 refine wpAny_IfExp (thn (hc pins s σ H _ I h) fun d s1 ⟨H1,I1,q1⟩=>?_)
 cases d with
 | true=>exact ha pins s1 σ H1 Q I1 q1
 | false=>exact hb pins s1 σ H1 Q I1 q1
end
end L2
namespace L2
open PySem PySem.Spec PyProof.Rows
def SqL (K:PySem.W.Frag) (H:Hp) (a:Addr) (xs:List V):Prop :=
 Rd H a (.lst xs) ∨
  ∃ (o:Obj) (its:Array Value) (n:Nat),K.lookup a=some o∧o.cls = .type "list"∧o.dict=none∧o.data = .seq its n∧its.size ≤ sizeLine∧Vals xs its.toList
def SqT (K:PySem.W.Frag) (H:Hp) (a:Addr) (xs:List V):Prop :=
 Rd H a (.tup xs) ∨
  ∃ (o:Obj) (its:Array Value) (n:Nat),K.lookup a=some o∧o.cls = .type "tuple"∧o.data = .seq its n∧its.size ≤ sizeLine∧Vals xs its.toList
def absV:Value→Option V
 | .none=>some .non
 | .bool b=>some (.bl b)
 | .int i _=>some (.int i)
 | .str x _=>some (.str x)
 | .bytes b _=>some (.byt b)
 | .float b _=>some (.flt b)
 | .ref a=>some (.ref a)
 | .type n=>some (.ty n)
 | _=>none
theorem RelV.abs {x:V} {u:Value} (r:RelV x u):absV u=some x:=by
 cases x with
 | non=>cases r;rfl
 | bl _=>cases r;rfl
 | int _=>obtain ⟨t,rfl⟩:=r;rfl
 | str _=>obtain ⟨t,rfl⟩:=r;rfl
 | byt _=>obtain ⟨t,rfl⟩:=r;rfl
 | flt _=>obtain ⟨t,rfl⟩:=r;rfl
 | ref _=>cases r;rfl
 | ty _=>cases r;rfl
theorem RelV.inj {x y:V} {u:Value} (r:RelV x u) (q:RelV y u):x=y:=Option.some.inj (r.abs.symm.trans q.abs)
theorem Vals.inj:∀ {xs ys:List V} {us:List Value},Vals xs us→Vals ys us→xs=ys
 | _,_,_, .nil, .nil=>rfl
 | _,_,_, .cons r t, .cons r' t'=>by rw [r.inj r',Vals.inj t t']
section
variable {X:Cx} {pins:List (Addr × Obj)} {σ:St} {H:Hp} {s:Shared} {a:Addr} {xs ys:List V}
theorem SqL.of {K:PySem.W.Frag} (h:H a=some (.lst xs)):SqL K H a xs := .inl (.inl h)
theorem SqT.of {K:PySem.W.Frag} (h:H a=some (.tup xs)):SqT K H a xs := .inl (.inl h)
theorem Inv.list (I:Inv X pins σ H s) (h:SqL X.K H a xs):∃ its:List Value,Vals xs its∧PlainL s.heap a its.toArray∧xs.length ≤ sizeLine:=by
 rcases h with h | ⟨o,its,n,hk,hc,hd,hs,hz,r⟩
 ·obtain ⟨z,its,n,r,e⟩:=h.ok I.hok
  exact ⟨its,r,⟨_,n,e,rfl,rfl,rfl⟩,z⟩
 ·refine ⟨its.toList,r,⟨o,n,I.kIn a o hk,hc,hd,by simpa using hs⟩,?_⟩
  have e:=r.length
  simp only [Array.length_toList] at e
  omega
theorem Inv.tuple (I:Inv X pins σ H s) (h:SqT X.K H a xs):∃ its:List Value,Vals xs its∧IsTup s.heap a its.toArray∧xs.length ≤ sizeLine:=by
 rcases h with h | ⟨o,its,n,hk,hc,hs,hz,r⟩
 ·obtain ⟨z,its,r,p⟩:=h.ok I.hok
  exact ⟨its,r,p,z⟩
 ·refine ⟨its.toList,r,⟨o,I.kIn a o hk,hc,n,by simpa using hs⟩,?_⟩
  have e:=r.length
  simp only [Array.length_toList] at e
  omega
theorem Inv.zlX (I:Inv X pins σ H s) (h:SqL X.K H a xs) (h':SqL X.K H a ys):xs=ys:=by
 obtain ⟨its,r,⟨o,n,e,_,_,d⟩,_⟩:=I.list h
 obtain ⟨its',r',⟨o',n',e',_,_,d'⟩,_⟩:=I.list h'
 rw [e] at e';cases e'
 rw [d] at d'
 injection d' with d1 _
 have:its=its':=by simpa using congrArg Array.toList d1
 subst this
 exact r.inj r'
theorem Inv.zsd (I:Inv X pins σ H s) (h:SqT X.K H a xs) (h':SqT X.K H a ys):xs=ys:=by
 obtain ⟨its,r,⟨o,e,_,n,d⟩,_⟩:=I.tuple h
 obtain ⟨its',r',⟨o',e',_,n',d'⟩,_⟩:=I.tuple h'
 rw [e] at e';cases e'
 rw [d] at d'
 injection d' with d1 _
 have:its=its':=by simpa using congrArg Array.toList d1
 subst this
 exact r.inj r'
end
abbrev Cx.wish (X:Cx) (E:Value→Shared→Prop):Cx:={ X with xe:=E }
abbrev Cx.nox (X:Cx):Cx:=X.wish fun _ _=>False
theorem Cx.Ok.wish {X:Cx} (ok:X.Ok) (E:Value→Shared→Prop):(X.wish E).Ok :=
 ⟨ok.mod,ok.kind,ok.glob,ok.blt,ok.above,ok.inj,ok.has,ok.cab,ok.hd,ok.frames,ok.stk,ok.exf,ok.bs,ok.bsz,ok.noex,ok.exfs,ok.funs,ok.frf⟩
theorem Cx.Ok.zeI {X:Cx} {E:Value→Shared→Prop} (ok:(X.wish E).Ok):X.Ok :=
 ⟨ok.mod,ok.kind,ok.glob,ok.blt,ok.above,ok.inj,ok.has,ok.cab,ok.hd,ok.frames,ok.stk,ok.exf,ok.bs,ok.bsz,ok.noex,ok.exfs,ok.funs,ok.frf⟩
section
variable {X:Cx} {pins:List (Addr × Obj)} {σ:St} {H:Hp} {s:Shared} {E:Value→Shared→Prop}
theorem Inv.wish (I:Inv X pins σ H s) (E:Value→Shared→Prop):Inv (X.wish E) pins σ H s:=⟨I.ok.wish E,I.os,I.bare,I.base,I.loc,I.cell,I.free,I.freeC,I.pin,I.hok,I.len⟩
theorem Inv.zeI (I:Inv (X.wish E) pins σ H s):Inv X pins σ H s:=⟨I.ok.zeI,I.os,I.bare,I.base,I.loc,I.cell,I.free,I.freeC,I.pin,I.hok,I.len⟩
theorem SP.zeI {D:Ends} {f:Flow} {s':Shared} (h:SP (X.wish E) pins D f s'):SP X pins D f s':=by
 cases f with
 | next=>obtain ⟨σ',H',I,q⟩:=h;exact ⟨σ',H',I.zeI,q⟩
 | brk=>obtain ⟨σ',H',I,q⟩:=h;exact ⟨σ',H',I.zeI,q⟩
 | cont=>obtain ⟨σ',H',I,q⟩:=h;exact ⟨σ',H',I.zeI,q⟩
 | ret u=>obtain ⟨v,σ',H',I,r,q⟩:=h;exact ⟨v,σ',H',I.zeI,r,q⟩
theorem PE.nox {e:Expr} {t:TE} (h:PE X.nox e t):PE X e t:=fun pins s σ H Q I hw =>
 wpAny_mono (h pins s σ H Q (I.wish _) hw) (fun _ _ ⟨v,H',I',r,q⟩=>⟨v,H',I'.zeI,r,q⟩) fun _ _ z=>False.elim z
theorem PT.nox {e:Expr} {t:TT} (h:PT X.nox e t):PT X e t:=fun pins s σ H Q I hw =>
 wpAny_mono (h pins s σ H Q (I.wish _) hw) (fun _ _ ⟨H',I',q⟩=>⟨H',I'.zeI,q⟩) fun _ _ z=>False.elim z
theorem PSs.nox {st:List Stmt} {t:TS} (h:PSs X.nox st t):PSs X st t:=fun pins s σ H D I hw =>
 wpAny_mono (h pins s σ H D (I.wish _) hw) (fun _ _ q=>q.zeI) fun _ _ z=>False.elim z
end
section
variable {X:Cx} {st:Stmt} {rest:List Stmt} {t u:TS} {e:Expr} {te:TE} {pos:Pos}
def zzn:TS:=fun D σ H=>D.nx σ H
def tSeq (t u:TS):TS:=fun D σ H=>t { D with nx:=u D } σ H
theorem zwH:PSs X [] zzn:=fun _ _ σ H _ I h=>wpAny_execs_nil ⟨σ,H,I,h⟩
theorem zuK (h1:PS X st t) (h2:PSs X rest u):PSs X (st :: rest) (tSeq t u):=by
 intro pins s σ H D I h
 refine wpAny_execs_cons (thn (h1 pins s σ H { D with nx:=u D } I h) fun f s1 q=>?_)
 cases f with
 | next =>
  obtain ⟨σ',H',I',q⟩:=q
  exact h2 pins s1 σ' H' D I' q
 | ret v=>exact q
 | brk=>exact q
 | cont=>exact q
theorem zwP (h1:PS X st t):PSs X [st] t:=by
 intro pins s σ H D I h
 refine wpAny_execs_cons (thn (h1 pins s σ H D I h) fun f s1 q=>?_)
 cases f with
 | next=>exact wpAny_execs_nil q
 | ret v=>exact q
 | brk=>exact q
 | cont=>exact q
theorem Inv.quiet {pins:List (Addr × Obj)} {σ:St} {H:Hp} {s:Shared} (I:Inv X pins σ H s):interactive X.env=false:=by simp [interactive,I.ok.kind]
def zzT (te:TE):TS:=fun D σ H=>te σ H fun _ H1=>D.nx σ H1
theorem zvp (he:PE X e te) (hs:swapsWith e none pos.line X.env=pure false:=by rfl):PS X (.Expr e pos) (zzT te):=by
 intro pins s σ H D I h
 exact wpAny_Expr_any (thn (he pins s σ H _ I h) fun v s1 ⟨x,H1,I1,r1,q1⟩=>⟨σ,H1,I1,q1⟩) I.quiet hs
def tRet (te:TE):TS:=fun D σ H=>te σ H D.rt
theorem zyb (he:PE X e te):PS X (.Return (some e) pos) (tRet te):=by
 intro pins s σ H D I h
 exact wpAny_Return_some (thn (he pins s σ H _ I h) fun v s1 ⟨x,H1,I1,r1,q1⟩=>⟨x,σ,H1,I1,r1,q1⟩)
def tIfS (c:TT) (t u:TS):TS:=fun D σ H=>c σ H fun b H1=>if b=true then t D σ H1 else u D σ H1
theorem zz6 {c:Expr} {a b:List Stmt} {tc:TT} (hc:PT X c tc) (ha:PSs X a t) (hb:PSs X b u):PS X (.If c a b pos) (tIfS tc t u):=by
 intro pins s σ H D I h
 refine wpAny_If (thn (hc pins s σ H _ I h) fun d s1 ⟨H1,I1,q1⟩=>?_)
 cases d with
 | true=>exact ha pins s1 σ H1 D I1 q1
 | false=>exact hb pins s1 σ H1 D I1 q1
def zya:TS:=fun _ _ _=>False
theorem zuH:PS X st zya:=fun _ _ _ _ _ _ h=>h.elim
end
abbrev TG:=V→St→Hp→(St→Hp→Prop)→Prop
abbrev TGs:=List V→St→Hp→(St→Hp→Prop)→Prop
def PG (X:Cx) (target:Expr) (t:TG):Prop :=
 ∀ (pins:List (Addr × Obj)) (s:Shared) (σ:St) (H:Hp) (v:V) (u:Value) (Q:St→Hp→Prop),Inv X pins σ H s→RelV v u→t v σ H Q →
  wpAny (model X.prog X.w) X.A (assign target X.env u) (fun _ s'=>∃ σ' H',Inv X pins σ' H' s'∧Q σ' H') X.xe s
def PGs (X:Cx) (ts:List Expr) (t:TGs):Prop :=
 ∀ (pins:List (Addr × Obj)) (s:Shared) (σ:St) (H:Hp) (vs:List V) (us:List Value) (Q:St→Hp→Prop),Inv X pins σ H s→Vals vs us→t vs σ H Q →
  wpAny (model X.prog X.w) X.A (assignInOrder ((assignEach ts X.env).map (·.2)) us) (fun _ s'=>∃ σ' H',Inv X pins σ' H' s'∧Q σ' H') X.xe s
section
variable {X:Cx} {pos:Pos}
def zyI (i:Nat):TG:=fun v σ H Q=>Q (σ.set i (some v)) H
theorem zvu {i:Nat} {x:Str} (hN:X.N.Nodup) (hi:X.N[i]? = some x) (hx:Loc X.env.scope x) (hf:X.fn x=true∨X.env.scope.names.lookup x=some .local:=by first | exact .inl rfl | exact .inr rfl | assumption):PG X (.Name x pos) (zyI i):=by
 intro pins s σ H v u Q I r h
 exact wpAny_assign_Name (ziX I hN hi hx r (fun s' I'=>⟨_,H,I',h⟩) hf)
def gNil:TGs:=fun vs σ H Q=>vs=[]∧Q σ H
def zzD (t:TG) (u:TGs):TGs:=fun vs σ H Q=>∃ v r,vs=v :: r∧t v σ H fun σ' H'=>u r σ' H' Q
theorem zwW:PGs X [] gNil:=by
 intro pins s σ H vs us Q I r h
 obtain ⟨e,h⟩:=h
 subst e
 cases r
 exact assignInOrder_nil ⟨σ,H,I,h⟩
theorem ztl {e:Expr} {es:List Expr} {t:TG} {u:TGs} (h1:PG X e t) (h2:PGs X es u)
  (hs:(assignEach (e :: es) X.env).map (·.2)=assign e X.env :: (assignEach es X.env).map (·.2):=by rfl):PGs X (e :: es) (zzD t u):=by
 intro pins s σ H vs us Q I r h
 obtain ⟨v,vr,e1,h⟩:=h
 subst e1
 cases r with
 | cons r rr =>
  rw [hs]
  refine assignInOrder_cons (thn (h1 pins s σ H _ _ _ I r h) fun _ s1 ⟨σ1,H1,I1,q1⟩=>?_)
  exact h2 pins s1 σ1 H1 _ _ Q I1 rr q1
def gTup (K:PySem.W.Frag) (n:Nat) (t:TGs):TG:=fun v σ H Q=>∃ a xs,v = .ref a∧SqT K H a xs∧xs.length=n∧t xs σ H Q
theorem zyX {es:List Expr} {k:Nat} {t:TGs} {n:Nat} (hc:X.calm=true) (h:PGs X es t)
  (hn:(assignEach es X.env).length=n:=by rfl) (hst:(assignEach es X.env).findIdx? (·.1)=none:=by rfl):PG X (.Tuple es k pos) (gTup X.K n t):=by
 intro pins s σ H v u Q I r hw
 obtain ⟨a,xs,e1,hq,hl,hw⟩:=hw
 subst e1
 cases r
 obtain ⟨its,rv,ht,hz⟩:=I.tuple hq
 refine assign_Tuple_tuple (I.ok.hd hc) ht (by simp [hn,← hl,rv.length]) hst fun h' hx=>?_
 have I1:Inv X pins σ H { s with heap:=h' }:=I.kept (t':=s.toks) fun b o e=>hx b o (Nat.ne_of_lt (Heap.lt_size e)) e
 exact h pins _ σ H xs _ Q I1 (by simpa using rv) hw
def tAsg (te:TE) (g:TG):TS:=fun D σ H=>te σ H fun x H1=>g x σ H1 D.nx
theorem zxU {tg e:Expr} {te:TE} {g:TG} (he:PE X e te) (hg:PG X tg g) (hs:swapsWithSole [tg] e pos.line X.env=pure false:=by rfl) (hw:swappedStores [tg] e X.env=pure none:=by rfl)
  (h1:(assignEach [tg] X.env).map (·.2)=[assign tg X.env]:=by rfl):PS X (.Assign [tg] e pos) (tAsg te g):=by
 intro pins s σ H D I h
 refine wpAny_Assign_stores (thn (he pins s σ H _ I h) fun v s1 ⟨x,H1,I1,r1,q1⟩=>?_) hs hw
 rw [h1]
 exact thn (hg pins s1 σ H1 x v _ I1 r1 q1) fun _ s2 q=>q
theorem zxs {i:Nat} {x:Str} {e:Expr} {te:TE} {pos':Pos} (hN:X.N.Nodup) (hi:X.N[i]? = some x) (hx:Loc X.env.scope x) (he:PE X e te) (hs:swapsWith e (some (.Name x pos')) pos.line X.env=pure false:=by rfl) (hf:X.fn x=true∨X.env.scope.names.lookup x=some .local:=by first | exact .inl rfl | exact .inr rfl | assumption) :
  PS X (.Assign [.Name x pos'] e pos) (tAsg te (zyI i)):=by
 intro pins s σ H D I h
 refine wpAny_Assign_Name (thn (he pins s σ H _ I h) fun v s1 ⟨y,H1,I1,r1,q1⟩=>?_) hs
 exact ziX I1 hN hi hx r1 (fun s2 I2=>⟨_,H1,I2,q1⟩) hf
end
section
variable {X:Cx} {pos:Pos}
end
structure It where
 go:Nat→Hp→Prop
 yld:Nat→Hp→V→Hp→Prop
 stop:Nat→Hp→Prop
def FpOk (X:Cx) (pins:List (Addr × Obj)) (H:Hp) (b:Addr):Prop :=
 H b=none∧b ≠ X.env.locals∧b ∉ X.fs∧(b ∈ X.ex∨X.s₀.heap.objs.size ≤ b)∧(∀ x c,X.env.cells.lookup x=some c→c ≠ b)∧∀ p ∈ X.pn ++ pins,p.1 ≠ b
theorem Inv.fpOk {X:Cx} {pins:List (Addr × Obj)} {σ:St} {H H':Hp} {s:Shared} {b:Addr} (I:Inv X pins σ H s) (hb:s.heap.objs.size ≤ b) (hn:H' b=none):FpOk X pins H' b:=by
 refine ⟨hn,Nat.ne_of_gt (Nat.lt_of_lt_of_le I.lt hb),I.nofs hb, .inr (Nat.le_trans I.sz hb),fun x c e z=>?_,fun p hp z=>?_⟩
 ·obtain ⟨v,q⟩:=I.cell x c e
  exact absurd (Nat.lt_of_lt_of_le q.lt (by rw [z];exact hb)) (Nat.lt_irrefl _)
 ·exact absurd (Nat.lt_of_lt_of_le (Heap.lt_size (I.pin p hp).1) (by rw [z];exact hb)) (Nat.lt_irrefl _)
structure Turn (P:Program) (w:World) (K:PySem.W.Frag) (tg:Expr) (J:It) (fp:List Addr) (it:Addr) (tn:Nat→Heap→Prop):Prop where
 mem:it ∈ fp
 obj:∀ i h,tn i h→∀ b ∈ fp,∃ o,h.get? b=some o∧∀ v,o.data ≠ .cell v
 keep:∀ i h h',tn i h→(∀ b ∈ fp,∀ o,h.get? b=some o→h'.get? b=some o)→tn i h'
 item:∀ (X:Cx),X.prog=P→X.w=w→X.K=K→X.calm=true→∀ (i:Nat) (pins:List (Addr × Obj)) (s:Shared) (σ:St) (H:Hp) (E:Value→Shared→Prop),Inv X pins σ H s→(∀ b ∈ fp,FpOk X pins H b)→tn i s.heap→J.go i H →
  wpAny (model P w) X.A (pyNext (.ref it)) (fun r s1=>∃ u,r=some u ∧
   wpAny (model P w) X.A (letOwnedTupleGo tg (.ref it) u) (fun _ s2=>∃ x H',Inv X pins σ H' s2∧RelV x u∧J.yld i H x H'∧tn (i + 1) s2.heap∧∀ b ∈ fp,H' b=none) E s1) E s
 done:∀ (X:Cx),X.prog=P→X.w=w→X.K=K→X.calm=true→∀ (i:Nat) (pins:List (Addr × Obj)) (s:Shared) (σ:St) (H:Hp) (E:Value→Shared→Prop),Inv X pins σ H s→(∀ b ∈ fp,FpOk X pins H b)→tn i s.heap→J.stop i H →
  wpAny (model P w) X.A (pyNext (.ref it)) (fun r s1=>r=none∧Inv X pins σ H s1) E s
 self:∀ (A:Around) (i:Nat) (s:Shared) (Q:Value→Shared→Prop) (E:Value→Shared→Prop),tn i s.heap→Q (.ref it) s→wpAny (model P w) A (pyIter (.ref it)) Q E s
abbrev TI:=St→Hp→(It→Hp→Prop)→Prop
def PIE (X:Cx) (pins:List (Addr × Obj)) (σ:St) (tg:Expr) (R:It→Hp→Prop) (itv:Value) (s2:Shared):Prop :=
 ∃ (it:Addr) (fp:List Addr) (tn:Nat→Heap→Prop) (J:It) (H':Hp),itv = .ref it∧Inv X pins σ H' s2∧Turn X.prog X.w X.K tg J fp it tn∧tn 0 s2.heap∧(∀ b ∈ fp,FpOk X pins H' b)∧R J H'
def PI (X:Cx) (tg iter:Expr) (wi:TI):Prop :=
 ∀ (pins:List (Addr × Obj)) (s:Shared) (σ:St) (H:Hp) (R:It→Hp→Prop),Inv X pins σ H s→wi σ H R →
  wpAny (model X.prog X.w) X.A (eval iter X.env) (fun v s1=>wpAny (model X.prog X.w) X.A (pyIter v) (PIE X pins σ tg R) X.xe s1) X.xe s
theorem zvG {M:Model} {A:Around} {E:Value→Shared→Prop} {s:Shared} {tg:Expr} {it:Addr} {u:Value} {o:Obj} {n:String} {vs:Array Value} {Q:Unit→Shared→Prop} (ho:s.heap.get? it=some o) (hc:o.cls = .type n) (hd:o.data = .fields vs)
  (hn : ["enumerate", "zip", "dict_itemiterator", "dict_reverseitemiterator", "odict_iterator", "itertools.zip_longest", "itertools.pairwise"].contains n=false) (hQ:Q () s):wpAny M A (letOwnedTupleGo tg (.ref it) u) Q E s:=by
 unfold letOwnedTupleGo
 cases tg <;> first
  | exact wpAny_pure hQ
  | (cases u <;> first
    | exact wpAny_pure hQ
    | (refine wpAny_bind (wpAny_load ho ?_)
       rw [hc,hd]
       show wpAny M A (if (["enumerate", "zip", "dict_itemiterator", "dict_reverseitemiterator", "odict_iterator", "itertools.zip_longest", "itertools.pairwise"].contains n && vs[0]? == some (rawInt _))=true then _ else _) Q E s
       rw [if_neg (by intro h;rw [hn,Bool.false_and] at h;cases h)]
       exact wpAny_pure hQ))
def Itl (K:PySem.W.Frag) (a:Addr):It :=
 ⟨fun i H=>∃ xs x,SqL K H a xs∧xs[i]? = some x,fun i H x H'=>H'=H∧∀ xs,SqL K H a xs→xs[i]? = some x,fun i H=>∃ xs,SqL K H a xs∧xs.length ≤ i⟩
def Itt (K:PySem.W.Frag) (a:Addr):It :=
 ⟨fun i H=>∃ xs x,SqT K H a xs∧xs[i]? = some x,fun i H x H'=>H'=H∧∀ xs,SqT K H a xs→xs[i]? = some x,fun i H=>∃ xs,SqT K H a xs∧xs.length ≤ i⟩
def Itr (lo:Int) (n:Nat):It:=⟨fun i _=>i < n,fun i H x H'=>H'=H∧x = .int (lo + i),fun i _=>n ≤ i⟩
theorem zsT {P:Program} {w:World} {K:PySem.W.Frag} {tg:Expr} (a it:Addr):Turn P w K tg (Itl K a) [it] it (fun i h=>h.IsListIter it a i) where
 mem:=by simp
 obj:=fun i h st b hb=>by
  have e:b=it:=by simpa using hb
  subst e
  obtain ⟨o,e,c,d⟩:=st
  exact ⟨o,e,fun v z=>by rw [d] at z;cases z⟩
 keep:=fun i h h' st k=>st.at fun o e=>k it (by simp) o e
 item:=by
  intro X hP hw hK hc i pins s σ H E I hf st hg
  subst hP hw hK
  obtain ⟨xs,x,hq,hx⟩:=hg
  obtain ⟨its,rv,p,hz⟩:=I.list hq
  obtain ⟨u,hu,ru⟩:=rv.get hx
  obtain ⟨f0,f1,f2,f3,f4,f5⟩:=hf it (by simp)
  refine wpAny_pyNext_list_item st p.isList (x:=u) (by simpa using hu) fun h' st' sb=>?_
  have I1:Inv X pins σ H { s with heap:=h' }:=I.turned (t':=s.toks) (fun b o hb e=>(sb.2 b hb).trans e) f0 f1 f3 f4 f5
  obtain ⟨o,e,c,d⟩:=id st'
  exact ⟨u,rfl,zvG (s:={ s with heap:=h' }) e c d (by decide) ⟨x,H,I1,ru,⟨rfl,fun ys hy=>by rw [I.zlX hy hq];exact hx⟩,st',fun b hb=>(hf b hb).1⟩⟩
 done:=by
  intro X hP hw hK hc i pins s σ H E I hf st hg
  subst hP hw hK
  obtain ⟨xs,hq,hx⟩:=hg
  obtain ⟨its,rv,p,hz⟩:=I.list hq
  obtain ⟨f0,f1,f2,f3,f4,f5⟩:=hf it (by simp)
  have hl:=rv.length
  exact wpAny_pyNext_list_end (I.ok.hd hc) st p.isList (by simp;omega) fun h' eb=>⟨rfl,I.turned (t':=s.toks) (fun b o hb e=>eb b o hb e) f0 f1 f3 f4 f5⟩
 self:=fun _ _ _ _ _ st h=>wpAny_pyIter_listiter st h
theorem zpj {P:Program} {w:World} {K:PySem.W.Frag} {tg:Expr} (a it:Addr):Turn P w K tg (Itt K a) [it] it (fun i h=>h.IsTupleIter it a i) where
 mem:=by simp
 obj:=fun i h st b hb=>by
  have e:b=it:=by simpa using hb
  subst e
  obtain ⟨o,e,c,d⟩:=st
  exact ⟨o,e,fun v z=>by rw [d] at z;cases z⟩
 keep:=fun i h h' st k=>st.at fun o e=>k it (by simp) o e
 item:=by
  intro X hP hw hK hc i pins s σ H E I hf st hg
  subst hP hw hK
  obtain ⟨xs,x,hq,hx⟩:=hg
  obtain ⟨its,rv,p,hz⟩:=I.tuple hq
  obtain ⟨u,hu,ru⟩:=rv.get hx
  obtain ⟨f0,f1,f2,f3,f4,f5⟩:=hf it (by simp)
  refine wpAny_pyNext_tuple_item st (show s.heap.IsTuple a its.toArray from p) (x:=u) (by simpa using hu) fun h' st' sb=>?_
  have I1:Inv X pins σ H { s with heap:=h' }:=I.turned (t':=s.toks) (fun b o hb e=>(sb.2 b hb).trans e) f0 f1 f3 f4 f5
  obtain ⟨o,e,c,d⟩:=id st'
  exact ⟨u,rfl,zvG (s:={ s with heap:=h' }) e c d (by decide) ⟨x,H,I1,ru,⟨rfl,fun ys hy=>by rw [I.zsd hy hq];exact hx⟩,st',fun b hb=>(hf b hb).1⟩⟩
 done:=by
  intro X hP hw hK hc i pins s σ H E I hf st hg
  subst hP hw hK
  obtain ⟨xs,hq,hx⟩:=hg
  obtain ⟨its,rv,p,hz⟩:=I.tuple hq
  obtain ⟨f0,f1,f2,f3,f4,f5⟩:=hf it (by simp)
  have hl:=rv.length
  exact wpAny_pyNext_tuple_end (I.ok.hd hc) st (show s.heap.IsTuple a its.toArray from p) (by simp;omega) fun h' eb=>⟨rfl,I.turned (t':=s.toks) (fun b o hb e=>eb b o hb e) f0 f1 f3 f4 f5⟩
 self:=fun _ _ _ _ _ st h=>wpAny_pyIter_tupleiter st h
theorem zp8 {P:Program} {w:World} {K:PySem.W.Frag} {tg:Expr} (it:Addr) (lo:Int) (n:Nat):Turn P w K tg (Itr lo n) [it] it (fun i h=>IsRangeIter h it (lo + (i:Nat) * 1) ((n:Int) - (i:Nat)) 1) where
 mem:=by simp
 obj:=fun i h st b hb=>by
  have e:b=it:=by simpa using hb
  subst e
  exact ⟨_,st,fun v z=>by
   have z':Data.fields _=Data.cell v:=z
   cases z'⟩
 keep:=fun i h h' st k=>k it (by simp) _ st
 item:=by
  intro X hP hw hK hc i pins s σ H E I hf st hg
  subst hP hw hK
  obtain ⟨f0,f1,f2,f3,f4,f5⟩:=hf it (by simp)
  have W:=Walks.range (prog:=X.prog) (w:=X.w) (I.ok.hd hc) it lo 1 n
  refine W.item i s _ _ hg st fun v h' tk hv st' kk=>?_
  obtain ⟨t,rfl⟩:=hv
  have I1:Inv X pins σ H { s with heap:=h',toks:=tk }:=I.turned (fun b o hb e=>kk b o (by simpa using hb) e) f0 f1 f3 f4 f5
  refine ⟨_,rfl,zvG (s:={ s with heap:=h',toks:=tk }) (n := "range_iterator") st' rfl rfl (by decide) ⟨.int (lo + i),H,I1,⟨t,?_⟩,⟨rfl,rfl⟩,st',fun b hb=>(hf b hb).1⟩⟩
  rw [Int.mul_one]
 done:=by
  intro X hP hw hK hc i pins s σ H E I hf st hg
  subst hP hw hK
  obtain ⟨f0,f1,f2,f3,f4,f5⟩:=hf it (by simp)
  exact wpAny_pyNext_range_end (I.ok.hd hc) st (by have:n ≤ i:=hg;omega) fun h' eb=>⟨rfl,I.turned (t':=s.toks) (fun b o hb e=>eb b o hb e) f0 f1 f3 f4 f5⟩
 self:=fun _ _ _ _ _ st h=>wpAny_pyIter_rangeiter st h
end L2
namespace L2
open PySem PySem.Spec PyProof.Rows
section
variable {X:Cx} {tg:Expr}
theorem zuL {pins:List (Addr × Obj)} {σ:St} {H:Hp} {s:Shared} {R:It→Hp→Prop} {E:Value→Shared→Prop} {lo hi:Int} {t u v:Tok} {tk:Nat} (I:Inv X pins σ H s) (h1 : -(2 ^ 62) ≤ lo) (h2:lo < 2 ^ 62) (h3 : -(2 ^ 62) ≤ hi) (h4:hi < 2 ^ 62)
  (q:R (Itr lo (hi - lo).toNat) H):wpAny (model X.prog X.w) X.A (pyIter (.ref s.heap.objs.size)) (PIE X pins σ tg R) E { s with heap:=s.heap.push { cls := .type "range",data := .fields #[.int lo t, .int hi u, .int 1 v] },toks:=tk }:=by
 refine wpAny_pyIter_range (IsRange.new ..) (small_one h1 h2 h3 h4) ?_
 have I1:Inv X pins σ H { s with heap:=s.heap.push { cls := .type "range",data := .fields #[.int lo t, .int hi u, .int 1 v] },toks:=tk }:=I.kept fun b o e=>Heap.get?_push_of_some _ e
 refine ⟨(s.heap.push { cls := .type "range",data := .fields #[.int lo t, .int hi u, .int 1 v] }).objs.size,[(s.heap.push { cls := .type "range",data := .fields #[.int lo t, .int hi u, .int 1 v] }).objs.size],_,_,H,rfl,
  I1.kept (t':=tk) fun b o e=>Heap.get?_push_of_some _ e,zp8 _ lo (hi - lo).toNat,?_,fun b hb=>?_,q⟩
 ·have e1:lo + ((0:Nat):Int) * 1=lo:=by simp
  have e2:(((hi - lo).toNat:Nat):Int) - ((0:Nat):Int)=Builtin.Range.rangeSize lo hi 1:=by rw [rangeSize_one];split <;> omega
  show IsRangeIter _ _ (lo + ((0:Nat):Int) * 1) ((((hi - lo).toNat:Nat):Int) - ((0:Nat):Int)) 1
  rw [e1,e2]
  exact Heap.get?_push_size _ rfl
 ·have e:b=(s.heap.push { cls := .type "range",data := .fields #[.int lo t, .int hi u, .int 1 v] }).objs.size:=by simpa using hb
  subst e
  exact I1.fpOk (Nat.le_refl _) (I1.hok.fresh (Nat.le_refl _))
def zz4 (ta:TA):TI:=fun σ H R=>ta σ H fun vs H1=>∃ j:Int,vs=[.int j]∧-(2 ^ 62) ≤ j∧j < 2 ^ 62∧R (Itr 0 j.toNat) H1
theorem zqT {a:Expr} {ta:TA} {p pos:Pos} (hg:Gl X "range") (hm:X.mg "range" = none) (ha:PA X [a] ta) (hs:starEach [a] X.env=[(false,eval a X.env)]:=by rfl):PI X tg (.Call (.Name "range" p) [a] [] pos) (zz4 ta):=by
 intro pins s σ H R I h
 refine Call_ (zmu I hg hm boot_range (PyProof.Rows.callWith_type1 (thn (ha pos pins s σ H _ I h) fun us s1 ⟨vs,H1,I1,r1,q1⟩=>?_) hs rfl))
 obtain ⟨j,e,q1,q2,q⟩:=q1
 subst e
 cases r1 with
 | cons r rr =>
  cases rr
  obtain ⟨t,rfl⟩:=r
  exact call_range_1 (zuL I1 (by omega) (by omega) q1 q2 (by simpa using q))
def tFor (wi:TI) (g:TG) (tb:TS):TS:=fun D σ H=>wi σ H fun J H1=>∃ W:Nat→Nat→St→Hp→Prop,(∃ m,W 0 m σ H1)∧∀ i m σ H,W i m σ H →
 (J.stop i H∧D.nx σ H)∨(J.go i H∧∃ N:St→Hp→Prop,(∀ σ' H',N σ' H'→∃ m',m' < m∧W (i + 1) m' σ' H')∧∀ x H',J.yld i H x H'→g x σ H' fun σ2 H2=>tb { D with nx:=N,ct:=N,bk:=D.nx } σ2 H2)
def zmK (fp:List Addr) (h:Heap):List (Addr × Obj):=fp.filterMap fun b=>(h.get? b).map fun o=>(b,o)
theorem zgB {fp:List Addr} {h:Heap} {b:Addr} {o:Obj} (hb:b ∈ fp) (e:h.get? b=some o):(b,o) ∈ zmK fp h:=List.mem_filterMap.mpr ⟨b,hb,by rw [e];rfl⟩
theorem zrx {fp:List Addr} {h:Heap} {p:Addr × Obj} (hp:p ∈ zmK fp h):p.1 ∈ fp∧h.get? p.1=some p.2:=by
 obtain ⟨b,hb,e⟩:=List.mem_filterMap.mp hp
 cases q:h.get? b with
 | none=>rw [q] at e;cases e
 | some o =>
  rw [q] at e
  have e':(b,o)=p:=Option.some.inj e
  subst e'
  exact ⟨hb,q⟩
theorem Inv.pinned {pins:List (Addr × Obj)} {σ:St} {H:Hp} {s:Shared} {fp:List Addr} (I:Inv X pins σ H s) (hf:∀ b ∈ fp,FpOk X pins H b) (ho:∀ b ∈ fp,∃ o,s.heap.get? b=some o∧∀ v,o.data ≠ .cell v):Inv X (pins ++ zmK fp s.heap) σ H s :=
 I.znQ fun p hp=>(List.mem_append.mp hp).elim (fun z=>I.pin p (List.mem_append_right _ z)) fun z=>by
  obtain ⟨hb,e⟩:=zrx z
  obtain ⟨f0,f1,f2,_⟩:=hf p.1 hb
  obtain ⟨o,e',d⟩:=ho p.1 hb
  rw [e] at e';cases e'
  exact ⟨e,f0,f1,f2,d⟩
theorem Inv.zi4 {pins pl:List (Addr × Obj)} {σ:St} {H:Hp} {s:Shared} (I:Inv X (pins ++ pl) σ H s):Inv X pins σ H s:=I.znQ fun p hp=>I.pin p (List.mem_append_right _ (List.mem_append_left _ hp))
theorem zza {iter:Expr} {body:List Stmt} {wi:TI} {g:TG} {tb:TS} {pos:Pos} (hp:PassesOwn (model X.prog X.w) X.A X.env X.xe) (hc:X.calm=true) (hi:PI X tg iter wi) (hg:PG X tg g) (hb:PSs X body tb)
  (hs:∀ x,foldedSetIterable iter X.env x=pure x:=by intro _;rfl):PS X (.For tg iter body [] pos) (tFor wi g tb):=by
 intro pins s σ H D I h
 refine wpAny_For (thn (hi pins s σ H _ I h) fun v s1 h1=>thn h1 fun itv s2 h2=>?_) hs
 obtain ⟨it,fp,tn,J,H2,e,I2,T,st2,f2,W,⟨m0,w0⟩,turn⟩:=h2
 subst e
 have stat:∀ {H':Hp},(∀ b ∈ fp,H' b=none)→∀ b ∈ fp,FpOk X pins H' b:=fun hn b hb=>⟨hn b hb,(f2 b hb).2⟩
 refine codeAny_forLoop_any (fun n s'=>∃ i σ' H',Inv X pins σ' H' s'∧tn i s'.heap∧(∀ b ∈ fp,H' b=none)∧W i n σ' H') ?_ m0 ⟨0,σ,H2,I2,st2,fun b hb=>(f2 b hb).1,w0⟩
 rintro n s3 ⟨i,σ3,H3,I3,st3,fr3,w3⟩
 rcases turn i n σ3 H3 w3 with ⟨stop,qn⟩ | ⟨go,N,hN,step⟩
 ·refine wpAny_passesOwn hp (thn (T.done X rfl rfl rfl hc i pins s3 σ3 H3 X.xe I3 (stat fr3) st3 stop) fun r s4 ⟨hr,I4⟩=>?_)
  subst hr
  exact wpAny_execs_nil ⟨σ3,H3,I4,qn⟩
 ·refine wpAny_passesOwn hp (thn (T.item X rfl rfl rfl hc i pins s3 σ3 H3 X.xe I3 (stat fr3) st3 go) fun r s4 ⟨u,hr,h4⟩=>?_)
  subst hr
  refine wpAny_passesOwn hp (thn h4 fun _ s5 ⟨x,H5,I5,r5,y5,st5,fr5⟩=>?_)
  have I5':=I5.pinned (stat fr5) (T.obj _ _ st5)
  refine wpAny_passesOwn hp (thn (hg _ s5 σ3 H5 x u _ I5' r5 (step x H5 y5)) fun _ s6 ⟨σ6,H6,I6,q6⟩=>?_)
  refine wpAny_passesOwn hp (thn (hb _ s6 σ6 H6 _ I6 q6) fun f s7 q7=>?_)
  have again:∀ {σ7:St} {H7:Hp},Inv X (pins ++ zmK fp s5.heap) σ7 H7 s7→N σ7 H7→∃ m,m < n∧∃ i σ' H',Inv X pins σ' H' s7∧tn i s7.heap∧(∀ b ∈ fp,H' b=none)∧W i m σ' H':=fun {σ7 H7} I7 n7=>by
   obtain ⟨m',hm,w7⟩:=hN σ7 H7 n7
   refine ⟨m',hm,i + 1,σ7,H7,I7.zi4,T.keep _ _ _ st5 fun b hb o e=>(I7.pin (b,o) (List.mem_append_right _ (List.mem_append_right _ (zgB hb e)))).1,fun b hb=>?_,w7⟩
   obtain ⟨o,e,d⟩:=T.obj _ _ st5 b hb
   exact (I7.pin (b,o) (List.mem_append_right _ (List.mem_append_right _ (zgB hb e)))).2.1
  cases f with
  | next=>obtain ⟨σ7,H7,I7,n7⟩:=q7;exact again I7 n7
  | cont=>obtain ⟨σ7,H7,I7,n7⟩:=q7;exact again I7 n7
  | brk=>obtain ⟨σ7,H7,I7,q7⟩:=q7;exact ⟨σ7,H7,I7.zi4,q7⟩
  | ret v=>obtain ⟨x7,σ7,H7,I7,r7,q7⟩:=q7;exact ⟨x7,σ7,H7,I7.zi4,r7,q7⟩
end
end L2
namespace L2
open PySem PySem.Spec PyProof.Rows
abbrev R2:=V→V→Hp→VK→Prop
def OpR (X:Cx) (f:Value→Value→Sem Value) (r:R2):Prop :=
 ∀ (pins:List (Addr × Obj)) (s:Shared) (σ:St) (H:Hp) (x y:V) (v u:Value) (Q:VK),Inv X pins σ H s→RelV x v→RelV y u→r x y H Q →
  wpAny (model X.prog X.w) X.A (f v u) (EP X pins σ Q) X.xe s
def UnR (X:Cx) (f:Value→Sem Value) (r:V→Hp→VK→Prop):Prop :=
 ∀ (pins:List (Addr × Obj)) (s:Shared) (σ:St) (H:Hp) (x:V) (v:Value) (Q:VK),Inv X pins σ H s→RelV x v→r x H Q →
  wpAny (model X.prog X.w) X.A (f v) (EP X pins σ Q) X.xe s
def zhD (X:Cx) (f:Value) (r:List V→Hp→VK→Prop):Prop :=
 ∀ (pins:List (Addr × Obj)) (s:Shared) (σ:St) (H:Hp) (xs:List V) (us:List Value) (Q:VK),Inv X pins σ H s→Vals xs us→r xs H Q →
  wpAny (model X.prog X.w) X.A (call f us) (EP X pins σ Q) X.xe s
def tOp (r:R2) (ta tb:TE):TE:=fun σ H Q=>ta σ H fun x H1=>tb σ H1 fun y H2=>r x y H2 Q
def tUn (r:V→Hp→VK→Prop) (ta:TE):TE:=fun σ H Q=>ta σ H fun x H1=>r x H1 Q
def rI (C:Int→Int→Prop) (g:Int→Int→V):R2:=fun x y H Q=>∃ i j,x = .int i∧y = .int j∧C i j∧Q (g i j) H
def rI0 (g:Int→Int→V):R2:=fun x y H Q=>∃ i j,x = .int i∧y = .int j∧Q (g i j) H
def rU (g:Int→V):V→Hp→VK→Prop:=fun x H Q=>∃ i,x = .int i∧Q (g i) H
section
variable {X:Cx} {a b c:Expr} {ta tb tc:TE} {pos:Pos}
theorem binT (ha:PE X a ta) (hb:PE X b tb) {pins:List (Addr × Obj)} {s:Shared} {σ:St} {H:Hp} {R:V→V→Hp→Prop} (I:Inv X pins σ H s)
  (h:ta σ H fun x H1=>tb σ H1 fun y H2=>R x y H2) {Q:Value→Shared→Prop} {f:Value→Value→Sem Value}
  (hf:∀ v u s2 x y H2,Inv X pins σ H2 s2→RelV x v→RelV y u→R x y H2→wpAny (model X.prog X.w) X.A (f v u) Q X.xe s2) :
  wpAny (model X.prog X.w) X.A (eval a X.env) (fun v s₁=>wpAny (model X.prog X.w) X.A (eval b X.env) (fun u s₂=>wpAny (model X.prog X.w) X.A (f v u) Q X.xe s₂) X.xe s₁) X.xe s:=by
 refine thn (ha pins s σ H _ I h) fun v s1 ⟨x,H1,I1,r1,q1⟩=>?_
 refine thn (hb pins s1 σ H1 _ I1 q1) fun u s2 ⟨y,H2,I2,r2,q2⟩=>?_
 exact hf v u s2 x y H2 I2 r1 r2 q2
theorem zzl {op:Operator} {r:R2} (ho:OpR X (binaryOp op) r) (ha:PE X a ta) (hb:PE X b tb):PE X (.BinOp a op b pos) (tOp r ta tb):=by
 intro pins s σ H Q I h
 exact wpAny_BinOp (binT ha hb I h fun v u s2 x y H2 I2 rx ry q=>ho pins s2 σ H2 x y v u Q I2 rx ry q)
theorem zzp {op:UnaryOp} {r:V→Hp→VK→Prop} (ho:UnR X (unaryOp op) r) (ha:PE X a ta):PE X (.UnaryOp op a pos) (tUn r ta):=by
 intro pins s σ H Q I h
 exact UnaryOp_ (thn (ha pins s σ H _ I h) fun v s1 ⟨x,H1,I1,r1,q1⟩=>ho pins s1 σ H1 x v Q I1 r1 q1)
theorem opI {f:Value→Value→Sem Value} {C:Int→Int→Prop} {g:Int→Int→Int}
  (rule:∀ (i j:Int) (t u:Tok) (s:Shared) (Q:Value→Shared→Prop) (E:Value→Shared→Prop),C i j→Q (.int (g i j) s.toks) { s with toks:=s.toks + 1 }→wpAny (model X.prog X.w) X.A (f (.int i t) (.int j u)) Q E s) :
  OpR X f (rI C fun i j => .int (g i j)):=by
 intro pins s σ H x y v u Q I rx ry h
 obtain ⟨i,j,rfl,rfl,hc,q⟩:=h
 obtain ⟨t,rfl⟩:=rx
 obtain ⟨t',rfl⟩:=ry
 exact rule i j t t' s _ _ hc ⟨.int (g i j),H,I.tok _,⟨_,rfl⟩,q⟩
theorem opI0 {f:Value→Value→Sem Value} {g:Int→Int→Int}
  (rule:∀ (i j:Int) (t u:Tok) (s:Shared) (Q:Value→Shared→Prop) (E:Value→Shared→Prop),Q (.int (g i j) s.toks) { s with toks:=s.toks + 1 }→wpAny (model X.prog X.w) X.A (f (.int i t) (.int j u)) Q E s) :
  OpR X f (rI0 fun i j => .int (g i j)):=by
 intro pins s σ H x y v u Q I rx ry h
 obtain ⟨i,j,rfl,rfl,q⟩:=h
 obtain ⟨t,rfl⟩:=rx
 obtain ⟨t',rfl⟩:=ry
 exact rule i j t t' s _ _ ⟨.int (g i j),H,I.tok _,⟨_,rfl⟩,q⟩
theorem opB0 {f:Value→Value→Sem Value} {g:Int→Int→Bool}
  (rule:∀ (i j:Int) (t u:Tok) (s:Shared) (Q:Value→Shared→Prop) (E:Value→Shared→Prop),Q (.bool (g i j)) s→wpAny (model X.prog X.w) X.A (f (.int i t) (.int j u)) Q E s) :
  OpR X f (rI0 fun i j => .bl (g i j)):=by
 intro pins s σ H x y v u Q I rx ry h
 obtain ⟨i,j,rfl,rfl,q⟩:=h
 obtain ⟨t,rfl⟩:=rx
 obtain ⟨t',rfl⟩:=ry
 exact rule i j t t' s _ _ ⟨.bl (g i j),H,I,rfl,q⟩
def CDiv (i j:Int):Prop:=0 < j∧j < 1073741824
def CPow (i j:Int):Prop:=0 ≤ j∧j ≤ 1000000∧i.natAbs < 2 ^ 64
def CMul (i j:Int):Prop:=(-(2 ^ 64) < i∧i < 2 ^ 64)∨(-(2 ^ 64) < j∧j < 2 ^ 64)
theorem CMul.ok {i j:Int} (h:CMul i j):IntMulOk i j:=by
 rcases h with ⟨h1,h2⟩ | ⟨h1,h2⟩
 ·exact .of_left (intBits_le_64 h1 h2)
 ·exact .of_right (intBits_le_64 h1 h2)
theorem zxw:OpR X (binaryOp .Add) (rI0 fun i j => .int (i + j)):=opI0 fun _ _ _ _ _ _ _ q=>add_int q
theorem zxJ:OpR X (binaryOp .Sub) (rI0 fun i j => .int (i - j)):=opI0 fun _ _ _ _ _ _ _ q=>sub_int q
theorem zyj:OpR X (binaryOp .Mult) (rI CMul fun i j => .int (i * j)):=opI fun _ _ _ _ _ _ _ hc q=>mul_int q hc.ok
theorem zv2:OpR X (binaryOp .FloorDiv) (rI CDiv fun i j => .int (i / j)):=opI fun i j _ _ _ _ _ hc q=>by
 have h1:(0:Int) < j:=hc.1
 have h2:j < 1073741824:=hc.2
 exact floordiv_int (by omega) (by rw [Int.fdiv_eq_ediv_of_nonneg i (by omega)];exact q) (.inl (PyProof.noPylong_small (by omega)))
theorem zy5:OpR X (binaryOp .Mod) (rI (fun _ j=>0 < j) fun i j => .int (i % j)):=opI fun i j _ _ _ _ _ hc q=>by
 have h1:(0:Int) < j:=hc
 exact mod_int' (by omega) (by rw [Int.fmod_eq_emod_of_nonneg i (by omega)];exact q)
theorem zyx:OpR X (binaryOp .Pow) (rI CPow fun i j => .int (i ^ j.toNat)):=opI fun _ _ _ _ _ _ _ hc q=>pow_int_small hc.1 hc.2.1 hc.2.2 q
theorem unI {f:Value→Sem Value} {g:Int→Int}
  (rule:∀ (i:Int) (t:Tok) (s:Shared) (Q:Value→Shared→Prop) (E:Value→Shared→Prop),Q (.int (g i) s.toks) { s with toks:=s.toks + 1 }→wpAny (model X.prog X.w) X.A (f (.int i t)) Q E s) :
  UnR X f (rU fun i => .int (g i)):=by
 intro pins s σ H x v Q I rx h
 obtain ⟨i,rfl,q⟩:=h
 obtain ⟨t,rfl⟩:=rx
 exact rule i t s _ _ ⟨.int (g i),H,I.tok _,⟨_,rfl⟩,q⟩
theorem zxv:UnR X (unaryOp .USub) (rU fun i => .int (-i)):=unI fun _ _ _ _ _ q=>neg_int q
end
section
variable {X:Cx} {a b c:Expr} {ta tb tc:TE} {pos:Pos}
theorem zu3 {pins:List (Addr × Obj)} {σ:St} {H:Hp} {s:Shared} {Q:VK} {k k':Bool} (I:Inv X pins σ H s) (q:Q (.bl k) H) (e:k=k'):EP X pins σ Q (.bool k') s:=by
 subst e
 exact ⟨.bl k,H,I,rfl,q⟩
theorem zzU:OpR X (compareOp .Lt) (rI0 fun i j => .bl (decide (i < j))):=opB0 fun _ _ _ _ _ _ _ q=>lt_int q
theorem zzo:OpR X (compareOp .LtE) (rI0 fun i j => .bl (decide (i ≤ j))):=opB0 fun _ _ _ _ _ _ _ q=>le_int q
theorem zzm:OpR X (compareOp .Gt) (rI0 fun i j => .bl (decide (j < i))):=opB0 fun _ _ _ _ _ _ _ q=>gt_int q
theorem zzJ:OpR X (compareOp .GtE) (rI0 fun i j => .bl (decide (j ≤ i))):=opB0 fun _ _ _ _ _ _ _ q=>ge_int q
theorem zxD:OpR X (compareOp .Is) (fun x y H Q=>y = .non∧Q (.bl (decide (x = .non))) H):=by
 intro pins s σ H x y v u Q I rx ry h
 obtain ⟨rfl,q⟩:=h
 cases ry
 refine is_none_gen (zu3 I q ?_)
 cases x <;> first
  | (cases rx;rfl)
  | (obtain ⟨t,rfl⟩:=rx;rfl)
theorem zwN:OpR X (compareOp .IsNot) (fun x y H Q=>y = .non∧Q (.bl (!decide (x = .non))) H):=by
 intro pins s σ H x y v u Q I rx ry h
 obtain ⟨rfl,q⟩:=h
 cases ry
 refine isnot_none_gen (zu3 I q ?_)
 cases x <;> first
  | (cases rx;rfl)
  | (obtain ⟨t,rfl⟩:=rx;rfl)
theorem OpR.or {f:Value→Value→Sem Value} {r r':R2} (h:OpR X f r) (h':OpR X f r'):OpR X f (fun x y H Q=>r x y H Q∨r' x y H Q):=by
 intro pins s σ H x y v u Q I rx ry q
 rcases q with q | q
 ·exact h pins s σ H x y v u Q I rx ry q
 ·exact h' pins s σ H x y v u Q I rx ry q
theorem za4 (b:Expr) {op:CmpOp} (h:op ≠ .In:=by decide) (h2:op ≠ .NotIn:=by decide):behindInMarks op b=false:=by
 have e1:(op == CmpOp.In)=false:=by cases op <;> first | rfl | exact absurd rfl h
 have e2:(op == CmpOp.NotIn)=false:=by cases op <;> first | rfl | exact absurd rfl h2
 cases b <;> simp [behindInMarks,e1,e2]
theorem zv6 {op:CmpOp} {r:R2} (ho:OpR X (compareOp op) r) (ha:PE X a ta) (hb:PE X b tb) (hm:behindInMarks op b=false):PE X (.Compare a [op] [b] pos) (tOp r ta tb):=by
 intro pins s σ H Q I h
 exact wpAny_Compare1 (binT ha hb I h fun v u s2 x y H2 I2 rx ry q=>ho pins s2 σ H2 x y v u Q I2 rx ry q) hm
def zyK (t:TE):TT:=fun σ H Q=>t σ H fun x H'=>∃ k,x = .bl k∧Q k H'
theorem zxg {op:CmpOp} {r:R2} (ho:OpR X (compareOp op) r) (ha:PE X a ta) (hb:PE X b tb) (hm:behindInMarks op b=false):PT X (.Compare a [op] [b] pos) (zyK (tOp r ta tb)):=by
 intro pins s σ H Q I h
 refine wpAny_isTrue_Compare1 (thn (ha pins s σ H _ I h) fun v s1 ⟨x,H1,I1,r1,q1⟩=>thn (hb pins s1 σ H1 _ I1 q1) fun u s2 ⟨y,H2,I2,r2,q2⟩ =>
  thn (ho pins s2 σ H2 x y v u _ I2 r1 r2 q2) fun c s3 ⟨z,H3,I3,r3,k,e,q3⟩=>?_) hm
 subst e
 cases r3
 exact wpAny_truthy_bool ⟨H3,I3,q3⟩
theorem zo3:(sizeLine:Nat) < 2 ^ 63:=by rw [sizeLine_eq];decide
theorem vals1 {x:V} {us:List Value} (r:Vals [x] us):∃ u,us=[u]∧RelV x u:=by
 cases r with
 | cons r1 r2=>cases r2;exact ⟨_,rfl,r1⟩
theorem vals2 {x y:V} {us:List Value} (r:Vals [x,y] us):∃ u w',us=[u,w']∧RelV x u∧RelV y w':=by
 cases r with
 | cons r1 r2 =>
  cases r2 with
  | cons r3 r4=>cases r4;exact ⟨_,_,rfl,r1,r3⟩
theorem zrW (hc:X.calm=true):zhD X (.builtin "max") (fun xs H Q=>∃ i j,xs=[.int i, .int j]∧Q (.int (if j > i then j else i)) H):=by
 intro pins s σ H xs us Q I r h
 obtain ⟨i,j,rfl,q⟩:=h
 obtain ⟨u,w',rfl,⟨t,rfl⟩,⟨t',rfl⟩⟩:=vals2 r
 refine max_two_ints (I.ok.hd hc) fun h' tk k=>⟨_,H,I.kept k,?_,q⟩
 by_cases hj:j > i
 ·rw [if_pos hj,if_pos hj];exact ⟨_,rfl⟩
 ·rw [if_neg hj,if_neg hj];exact ⟨_,rfl⟩
theorem zqt (hc:X.calm=true):zhD X (.builtin "min") (fun xs H Q=>∃ i j,xs=[.int i, .int j]∧Q (.int (if j < i then j else i)) H):=by
 intro pins s σ H xs us Q I r h
 obtain ⟨i,j,rfl,q⟩:=h
 obtain ⟨u,w',rfl,⟨t,rfl⟩,⟨t',rfl⟩⟩:=vals2 r
 refine min_two_ints (I.ok.hd hc) fun h' tk k=>⟨_,H,I.kept k,?_,q⟩
 by_cases hj:j < i
 ·rw [if_pos hj,if_pos hj];exact ⟨_,rfl⟩
 ·rw [if_neg hj,if_neg hj];exact ⟨_,rfl⟩
end
end L2
namespace L2
open PySem PySem.Spec PyProof.Rows
structure ObjM (h:Heap) (x dx C:Addr) (mA:Str→Option Value):Prop where
 obj:h.get? x=some (PySem.W.instObj C dx)
 ns:h.Ns1 dx mA
 ne:dx ≠ x
theorem zrz {h:Heap} {dx:Addr} {mA:Str→Option Value} (n:h.Ns1 dx mA):∃ od,h.get? dx=some od∧∀ name,PySem.W.lookIn name od=some (mA name):=by
 obtain ⟨o,es,ep,ho,hd,hk,_,hm⟩:=n
 refine ⟨o,ho,fun name=>?_⟩
 have e:=hm name
 unfold nsFind findBy at e
 rw [← Array.find?_toList] at e
 unfold PySem.W.lookIn
 rw [hd]
 dsimp only
 split
 ·rename_i y q
  rw [q] at e
  exact congrArg some e
 ·rename_i q
  rw [q] at e
  have a:es.toList.any (·.refKey)=false:=by
   rw [List.any_eq_false]
   intro y hy
   obtain ⟨z,t,hkey⟩:=hk y (Array.mem_toList_iff.mp hy)
   simp [DictEntry.refKey,hkey]
  have a':¬ es.toList.any (·.refKey)=true:=by rw [a];exact Bool.false_ne_true
  rw [if_neg a']
  exact congrArg some e
theorem ObjM.look {h:Heap} {x dx C:Addr} {mA:Str→Option Value} (I:ObjM h x dx C mA):∃ od,PySem.W.InstAt h x (PySem.W.instObj C dx) C (some od)∧∀ name,PySem.W.lookIn name od=some (mA name) :=
 let ⟨od,ho,hl⟩:=zrz I.ns
 ⟨od,⟨I.obj,rfl,rfl,ho⟩,hl⟩
section
variable {prog:Program} {w:World} {A:Around} {E:Value→Shared→Prop} {s:Shared} {K:PySem.W.Frag} {x dx C f:Addr} {mA:Str→Option Value} {name:Str} {v:Value}
theorem get_map {expr:Bool} {Q:Value→Shared→Prop} (X:K.In s.heap) (I:ObjM s.heap x dx C mA) (hg:PySem.W.plainGet K C name=true) (hh:PySem.W.hasDictIn K C=true)
  (ha:PySem.W.findIn K (.ref C) name=some none) (hv:mA name=some v) (hv':PySem.W.handedIn v=true) (h:Q v { s with toks:=s.toks + 1 }) :
  wpAny (model prog w) A (getAttr (.ref x) name expr) Q E s:=by
 obtain ⟨od,J,hl⟩:=I.look
 exact PySem.W.get_value X J (PySem.W.plainGet_of hg).1 (PySem.W.findObj_own hh ha rfl (by rw [hl,hv])) hv' h
theorem zth {pl:Sem Bool} {Q:Value × List Value→Shared→Prop} (X:K.In s.heap) (I:ObjM s.heap x dx C mA) (hg:PySem.W.plainGet K C name=true)
  (hf:PySem.W.findIn K (.ref C) name=some (some (.ref f))) (ht:PySem.W.isFn K (.ref f)=true) (hv:mA name=none) (h:Q (.ref f,[.ref x]) s) :
  wpAny (model prog w) A (getMethod (.ref x) name pl) Q E s:=by
 obtain ⟨od,J,hl⟩:=I.look
 exact PySem.W.method_fn X J (PySem.W.plainGet_of hg).1 (PySem.W.plainGet_of hg).2 hf (beq_iff_eq.mp ht) (by show (PySem.W.lookIn name od).map (·.isSome)=some false;rw [hl,hv];rfl) h
theorem zvT {ns:List Str} {Q:Unit→Shared→Prop} (X:K.In s.heap) (I:ObjM s.heap x dx C mA)
  (hs:PySem.W.findIn K (.ref C) "__setattr__" = some (some (.builtin "object.__setattr__"))) (hp:PySem.W.plainOver K C=true) (ht:PySem.W.takerIn K C name=some none) (hh:PySem.W.hasDictIn K C=true)
  (hw:PySem.Within mA ns) (hsz:ns.length ≤ sizeLine)
  (h:∀ h',ObjM h' x dx C (fun y=>if y=name then some v else mA y)→Heap.SameBut dx s.heap h'→Q () { s with heap:=h',toks:=s.toks + 2 }) :
  wpAny (model prog w) A (setAttr (.ref x) name v) Q E s:=by
 obtain ⟨od,J,hl⟩:=I.look
 refine PySem.W.set_plain X J hs (PySem.W.osa_open (s:={ s with toks:=s.toks + 1 }) (r:=none) X J hp ht fun b=>?_)
 obtain ⟨cd,hc,hd'⟩:=PySem.W.any_some hh
 have hx:s.heap.get? x=some ⟨.ref C,some dx, .plain,#[]⟩:=I.obj
 refine wpAny_bind (wpAny_pure (wpAny_bind (wpAny_bind (wpAny_loadPart hx (wpAny_bind (PySem.W.Looks.here (s:={ s with toks:=s.toks + 1 }) (PySem.W.looks_clsIn X hc) ?_))))))
 rw [hd']
 refine wpAny_pure (a:=some dx) (wpAny_bind (wpAny_pure (wpAny_bind ?_)))
 refine wpAny_nsSet1 (s:={ s with toks:=s.toks + 1 }) I.ns fun h' hn2 hs2=>?_
 obtain ⟨oD,esD,epD,hoD,hdD,hcD⟩:=hn2.count (PySem.Within.cons name v hw)
 refine wpAny_bind (wpAny_lookBehind hoD (by rw [hdD];exact pastItsLine_dict (Nat.le_trans hcD (by rw [List.length_cons];omega))) ?_)
 exact wpAny_pure (h _ ⟨(hs2.2 _ (Ne.symm I.ne)).trans I.obj,hn2,I.ne⟩ hs2)
theorem zuo {R:Result→Shared→Prop} {vs:List Value} {kw:List (Str × Value)} (X:K.In s.heap) (hm:PySem.W.makesIn K C=true)
  (hi:PySem.W.findIn K (.ref C) "__init__" = some (some (.ref f))) (hf:PySem.W.typeIn K (.ref f)=some (.type "function"))
  (h:codeAny (model prog w) (A.under (.builtin "type.__call__" ⟨.ref C :: vs,kw⟩)) (.call (.ref f) ⟨.ref (s.heap.objs.size + 1) :: vs,kw⟩) (PySem.W.InitBack (s.heap.objs.size + 1) R)
   { s with heap:=(s.heap.push PySem.W.emptyDict).push (PySem.W.instObj C s.heap.objs.size) }) :
  codeAny (model prog w) A (.call (.ref C) ⟨vs,kw⟩) R s:=by
 obtain ⟨hh,g,d,t,os⟩:=s
 exact PySem.W.make_core (PySem.W.makes_of X hm) (PySem.W.looks_findIn X hi) (fun self=>PySem.W.bind_fn X self hf) (.inl rfl) h
end
def putF (f:Str) (v:V):List (Str × V)→List (Str × V)
 | []=>[(f,v)]
 | (g,x) :: r=>if g=f then (g,v) :: r else (g,x) :: putF f v r
theorem zjI (f g:Str) (v:V):∀ fs:List (Str × V),(putF f v fs).lookup g=if g=f then some v else fs.lookup g
 | []=>by
  show List.lookup g [(f,v)]=_
  by_cases h:g=f
  ·have hb:(g == f)=true:=beq_iff_eq.mpr h
   simp only [List.lookup,hb,if_pos h]
  ·have hb:(g == f)=false:=beq_eq_false_iff_ne.mpr h
   simp only [List.lookup,hb,if_neg h]
 | (k,x) :: r=>by
  have ih:=zjI f g v r
  rw [show putF f v ((k,x) :: r)=(if k=f then (k,v) :: r else (k,x) :: putF f v r) from rfl]
  by_cases hk:k=f
  ·rw [if_pos hk]
   by_cases h:g=k
   ·have hb:(g == k)=true:=beq_iff_eq.mpr h
    simp only [List.lookup,hb,if_pos (h.trans hk)]
   ·have hb:(g == k)=false:=beq_eq_false_iff_ne.mpr h
    simp only [List.lookup,hb,if_neg (fun e:g=f=>h (e.trans hk.symm))]
  ·rw [if_neg hk]
   by_cases h:g=k
   ·have hb:(g == k)=true:=beq_iff_eq.mpr h
    simp only [List.lookup,hb,if_neg (fun e:g=f=>hk (h.symm.trans e))]
   ·have hb:(g == k)=false:=beq_eq_false_iff_ne.mpr h
    simp only [List.lookup,hb]
    exact ih
theorem zjM (f:Str) (v:V):∀ fs:List (Str × V),f ∈ (putF f v fs).map (·.1)∧∀ g,g ∈ fs.map (·.1)→g ∈ (putF f v fs).map (·.1)
 | []=>⟨by simp [putF],fun g h=>by simp at h⟩
 | (k,x) :: r=>by
  obtain ⟨i1,i2⟩:=zjM f v r
  rw [show putF f v ((k,x) :: r)=(if k=f then (k,v) :: r else (k,x) :: putF f v r) from rfl]
  by_cases hk:k=f
  ·rw [if_pos hk]
   subst hk
   exact ⟨by simp,fun g h=>by simpa using h⟩
  ·rw [if_neg hk]
   refine ⟨?_,fun g h=>?_⟩
   ·rw [List.map_cons]
    exact List.mem_cons_of_mem _ i1
   ·rw [List.map_cons] at h ⊢
    rcases List.mem_cons.mp h with e | e
    ·exact List.mem_cons.mpr (.inl e)
    ·exact List.mem_cons_of_mem _ (i2 g e)
theorem zjU (f:Str) (v:V):∀ fs:List (Str × V),(putF f v fs).length ≤ fs.length + 1
 | []=>by simp [putF]
 | (k,x) :: r=>by
  have ih:=zjU f v r
  rw [show putF f v ((k,x) :: r)=(if k=f then (k,v) :: r else (k,x) :: putF f v r) from rfl]
  by_cases hk:k=f
  ·rw [if_pos hk,List.length_cons,List.length_cons];omega
  ·rw [if_neg hk,List.length_cons,List.length_cons];omega
theorem RelO.some_of {v:V} {o:Option Value} (r:RelO (some v) o):∃ u,o=some u∧RelV v u:=by
 cases o with
 | none=>exact (show False from r).elim
 | some u=>exact ⟨u,rfl,r⟩
theorem RelO.none_of {o:Option Value} (r:RelO none o):o=none:=by
 cases o with
 | none=>rfl
 | some u=>exact (show False from r).elim
theorem zq4 {v:V} {u:Value} (r:RelV v u):PySem.W.handedIn u=true:=by
 cases v with
 | non=>cases (show u=Value.none from r);rfl
 | bl b=>cases (show u=Value.bool b from r);rfl
 | int i=>obtain ⟨t,e⟩:=(show ∃ t,u=Value.int i t from r);cases e;rfl
 | str x=>obtain ⟨t,e⟩:=(show ∃ t,u=Value.str x t from r);cases e;rfl
 | byt b=>obtain ⟨t,e⟩:=(show ∃ t,u=Value.bytes b t from r);cases e;rfl
 | flt b=>obtain ⟨t,e⟩:=(show ∃ t,u=Value.float b t from r);cases e;rfl
 | ref a=>cases (show u=Value.ref a from r);rfl
 | ty n=>cases (show u=Value.type n from r);rfl
section
variable {P:Program} {w:World} {H H':Hp} {h h':Heap} {a C dx:Addr} {fs fs':List (Str × V)}
theorem zk9 (hok:HOk P w H h) (e:H a=some (.ins C dx fs)):∃ mA,ObjM h a dx C mA∧(∀ f,RelO (fs.lookup f) (mA f))∧PySem.Within mA (fs.map (·.1))∧fs.length ≤ 1000∧H dx=some (.own a):=by
 obtain ⟨d,z,ne,ob,mA,n,r,q⟩:=(show zc6 P w H h a (.ins C dx fs) from hok a _ e)
 exact ⟨mA,⟨ob,n,ne⟩,r,q,z,d⟩
end
structure Cls (K:PySem.W.Frag) (C:Addr):Prop where
 pg:PySem.W.plainGet K C Str.empty=true
 hd:PySem.W.hasDictIn K C=true
 po:PySem.W.plainOver K C=true
 sa:PySem.W.findIn K (.ref C) "__setattr__" = some (some (.builtin "object.__setattr__"))
theorem Cls.get {K:PySem.W.Frag} {C:Addr} (c:Cls K C) (f:Str):PySem.W.plainGet K C f=true:=c.pg
def zjG (K:PySem.W.Frag) (C:Addr) (f:Str):Prop:=PySem.W.findIn K (.ref C) f=some none
theorem zjG.zz5 {K:PySem.W.Frag} {C:Addr} {f:Str} (n:zjG K C f):PySem.W.takerIn K C f=some none:=by
 unfold PySem.W.takerIn
 rw [show PySem.W.findIn K (.ref C) f=some none from n]
 rfl
structure Con (K:PySem.W.Frag) (C:Addr) (f:Str) (v:V) (u:Value):Prop where
 at_:PySem.W.findIn K (.ref C) f=some (some u)
 rel:RelV v u
 get:PySem.W.specialIn K u "__get__" = some none
 cp:PySem.W.copiedNames.contains f=false
structure Meth (K:PySem.W.Frag) (C:Addr) (m:Str) (f:Addr):Prop where
 at_:PySem.W.findIn K (.ref C) m=some (some (.ref f))
 fn:PySem.W.isFn K (.ref f)=true
 kp:PySem.W.keepIn K (.ref f)=true
section
variable {X:Cx} {pins:List (Addr × Obj)} {σ:St} {H:Hp} {s:Shared} {a C dx:Addr} {fs:List (Str × V)} {f:Str} {v:V} {A:Around} {E:Value→Shared→Prop}
theorem zpZ {b:Bool} {Q:Value→Shared→Prop} (I:Inv X pins σ H s) (e:H a=some (.ins C dx fs)) (c:Cls X.K C) (n:zjG X.K C f) (l:fs.lookup f=some v)
  (h:∀ u s',Inv X pins σ H s'→RelV v u→Q u s'):wpAny (model X.prog X.w) A (getAttr (.ref a) f b) Q E s:=by
 obtain ⟨mA,O,r,_,_,_⟩:=zk9 I.hok e
 obtain ⟨u,hu,ru⟩:=RelO.some_of (v:=v) (o:=mA f) (by rw [← l];exact r f)
 exact get_map I.kIn O (c.get f) c.hd n hu (zq4 ru) (h u _ (I.tok _) ru)
theorem zkW {m:Str} {g:Addr} {pl:Sem Bool} {Q:Value × List Value→Shared→Prop} (I:Inv X pins σ H s) (e:H a=some (.ins C dx fs)) (c:Cls X.K C) (k:Meth X.K C m g) (l:fs.lookup m=none)
  (h:Q (.ref g,[.ref a]) s):wpAny (model X.prog X.w) A (getMethod (.ref a) m pl) Q E s:=by
 obtain ⟨mA,O,r,_,_,_⟩:=zk9 I.hok e
 have hn:mA m=none:=RelO.none_of (by rw [← l];exact r m)
 exact zth I.kIn O (c.get m) k.at_ k.fn hn h
theorem zpJ {y:V} {u:Value} {Q:Unit→Shared→Prop} (I:Inv X pins σ H s) (e:H a=some (.ins C dx fs)) (c:Cls X.K C) (n:zjG X.K C f) (hl:fs.length < 1000) (ry:RelV y u)
  (h:∀ s',Inv X pins σ (upd H a (.ins C dx (putF f y fs))) s'→Q () s'):wpAny (model X.prog X.w) A (setAttr (.ref a) f u) Q E s:=by
 obtain ⟨mA,O,r,wi,_,ho⟩:=zk9 I.hok e
 have hz:(fs.map (·.1)).length ≤ sizeLine:=by rw [List.length_map,sizeLine_eq];omega
 refine zvT I.kIn O c.sa c.po n.zz5 c.hd wi hz fun h' O' sb=>h _ ?_
 have hd:∃ o,h'.get? dx=some o:=let ⟨o,_,_,e',_⟩:=O'.ns; ⟨o,e'⟩
 refine I.write (x:=a) (e:=dx) (by rw [e];exact True.intro) (.inr ho) (fun b q hb z=>(sb.2 b hb).trans z) hd ?_
 refine ⟨by rw [zan O.ne];exact ho,?_,O.ne,O'.obj,_,O'.ns,fun g=>?_,fun g hg=>?_⟩
 ·have:=zjU f y fs;omega
 ·show RelO ((putF f y fs).lookup g) (if g=f then some u else mA g)
  rw [zjI]
  by_cases q:g=f
  ·rw [if_pos q,if_pos q];exact ry
  ·rw [if_neg q,if_neg q];exact r g
 ·by_cases q:g=f
  ·rw [q];exact (zjM f y fs).1
  ·refine (zjM f y fs).2 g (wi g fun z=>hg ?_)
   show (if g=f then some u else mA g)=none
   rw [if_neg q];exact z
theorem Inv.made (I:Inv X pins σ H s):Inv X pins σ (upd (upd H s.heap.objs.size (.own (s.heap.objs.size + 1))) (s.heap.objs.size + 1) (.ins C s.heap.objs.size []))
  { s with heap:=(s.heap.push PySem.W.emptyDict).push (PySem.W.instObj C s.heap.objs.size) }:=by
 have e1:(s.heap.push PySem.W.emptyDict).get? s.heap.objs.size=some PySem.W.emptyDict:=Heap.get?_push_size s.heap rfl
 have e2:((s.heap.push PySem.W.emptyDict).push (PySem.W.instObj C s.heap.objs.size)).get? (s.heap.objs.size + 1)=some (PySem.W.instObj C s.heap.objs.size):=by
  have:=Heap.get?_push_size (s.heap.push PySem.W.emptyDict) (o:=PySem.W.instObj C s.heap.objs.size) rfl
  rwa [Heap.size_push] at this
 have e3:(s.heap.push PySem.W.emptyDict).Ns s.heap.objs.size (fun _=>none):=⟨PySem.W.emptyDict,#[],_,e1,rfl,(fun e he=>absurd he (by simp)),fun _=>rfl⟩
 have I1:=I.laid (a:=s.heap.objs.size) (o := .own (s.heap.objs.size + 1)) (h':=s.heap.push PySem.W.emptyDict) (t':=s.toks) (fun b u q=>Heap.get?_push_of_some _ q) (Nat.le_refl _) ⟨_,e1⟩
 refine I1.laid (a:=s.heap.objs.size + 1) (o := .ins C s.heap.objs.size []) (t':=s.toks) (fun b u q=>Heap.get?_push_of_some _ q) (Nat.le_of_eq (Heap.size_push _ _)) ?_
 have ne:s.heap.objs.size ≠ s.heap.objs.size + 1:=Nat.ne_of_lt (Nat.lt_succ_self _)
 refine ⟨by rw [zan ne,zay],Nat.zero_le _,ne,e2,fun _=>none,(Heap.Ns1.of_empty e3).at fun o q=>Heap.get?_push_of_some _ q,fun _=>True.intro,fun y hy=>absurd rfl hy⟩
theorem zwJ {prog:Program} {w:World} {env:Env} {e:Expr} {f:Str} {pos:Pos} {s:Shared} {Q:Value→Shared→Prop} (hb:attributeBase e f env (eval e env)=eval e env)
  (h:wpAny (model prog w) A (eval e env) (fun o s₁=>wpAny (model prog w) A (getAttr o f true) Q E s₁) E s):wpAny (model prog w) A (eval (.Attribute e f pos) env) Q E s :=
 Attribute_any_ h (by rw [arm_eval_Attribute,hb])
end
def tFld (K:PySem.W.Frag) (ta:TE) (f:Str):TE:=fun σ H Q=>ta σ H fun x H1=>∃ a C dx fs v,x = .ref a∧H1 a=some (.ins C dx fs)∧Cls K C∧zjG K C f∧fs.lookup f=some v∧Q v H1
def sFld (K:PySem.W.Frag) (ta tv:TE) (f:Str):TS:=fun D σ H=>tv σ H fun y H1=>ta σ H1 fun x H2=>∃ a C dx fs,x = .ref a∧H2 a=some (.ins C dx fs)∧Cls K C∧zjG K C f∧fs.length < 1000 ∧
 D.nx σ (upd H2 a (.ins C dx (putF f y fs)))
section
variable {X:Cx} {o e value:Expr} {f:Str} {pos pos' tpos:Pos} {ta tv:TE}
theorem zy9 (he:PE X e ta) (hb:attributeBase e f X.env (eval e X.env)=eval e X.env):PE X (.Attribute e f pos) (tFld X.K ta f):=by
 intro pins s σ H Q I h
 refine zwJ hb (thn (he pins s σ H _ I h) fun u s1 ⟨x,H1,I1,rx,a,C,dx,fs,v,ex,ea,c,n,l,q⟩=>?_)
 subst ex
 obtain rfl:u=Value.ref a:=rx
 exact zpZ I1 ea c n l fun u' s2 I2 ru=>⟨v,H1,I2,ru,q⟩
theorem zxL (ha:PE X o ta) (hv:PE X value tv) (hs:swapsWith value (some (.Attribute o f pos')) pos.line X.env=pure false):PS X (.Assign [.Attribute o f pos'] value pos) (sFld X.K ta tv f):=by
 intro pins s σ H D I h
 refine plainObj_wpAny_Assign_Attribute (thn (hv pins s σ H _ I h) fun u s1 ⟨y,H1,I1,ry,q⟩=>thn (ha pins s1 σ H1 _ I1 q) fun ov s2 ⟨x,H2,I2,rx,a,C,dx,fs,ex,ea,c,n,l,q2⟩=>?_) hs
 subst ex
 obtain rfl:ov=Value.ref a:=rx
 exact zpJ I2 ea c n l ry fun s3 I3=>⟨σ,_,I3,q2⟩
end
section
variable {X:Cx} {pins:List (Addr × Obj)} {σ:St} {H:Hp} {s:Shared} {A:Around} {E:Value→Shared→Prop} {Q:Value→Shared→Prop} {c:Value} {b:Bool}
inductive TyOf (K:PySem.W.Frag) (H:Hp):V→Value→Prop where
 | non:TyOf K H .non (.type "NoneType")
 | bl (x:Bool):TyOf K H (.bl x) (.type "bool")
 | int (i:Int):TyOf K H (.int i) (.type "int")
 | str (x:Str):TyOf K H (.str x) (.type "str")
 | flt (x:UInt64):TyOf K H (.flt x) (.type "float")
 | lst {a:Addr} {xs:List V} (e:H a=some (.lst xs)):TyOf K H (.ref a) (.type "list")
 | frz {a:Addr} {o:Obj} {xs:List V} (e:H a=some (.frz o (.lst xs))):TyOf K H (.ref a) (.type "list")
 | tup {a:Addr} {xs:List V} (e:H a=some (.tup xs)):TyOf K H (.ref a) (.type "tuple")
 | dK {a:Addr} {kvs:List (Key × V)} (e:H a=some (.dK kvs)):TyOf K H (.ref a) (.type "dict")
 | dT {a:Addr} {kvs:List (List Key × V)} (e:H a=some (.dT kvs)):TyOf K H (.ref a) (.type "dict")
 | ins {a C dx:Addr} {fs:List (Str × V)} (e:H a=some (.ins C dx fs)) (cl:Cls K C) (ha:PySem.W.findIn K (.ref C) "__class__" = some (some (.builtin "object.__class__")))
   (hn:PySem.W.specialIn K (.builtin "object.__class__") "__get__" = some (some (.builtin "getset_descriptor.__get__"))) (htk:PySem.W.takesIn K (.builtin "object.__class__")=some true)
   (hm:PySem.W.mroIn K C (.type "object")=some true):TyOf K H (.ref a) (.ref C)
theorem zsN {x:V} {u t:Value} (I:Inv X pins σ H s) (rx:RelV x u) (ty:TyOf X.K H x t) (e:PySem.W.kitOne X.K t c=some b) (h:∀ tk,Q (.bool b) { s with toks:=tk }) :
  wpAny (model X.prog X.w) A (call (.builtin "isinstance") [u,c]) Q E s:=by
 cases ty with
 | non=>cases (show u=Value.none from rx);exact PySem.W.kia_one PySem.W.kitx_none I.kIn True.intro e (fun z=>nomatch z) h
 | bl y=>cases (show u=Value.bool y from rx);exact PySem.W.kia_one PySem.W.kitx_bool I.kIn True.intro e (fun z=>nomatch z) h
 | int i=>obtain ⟨t,q⟩:=(show ∃ t,u=Value.int i t from rx);cases q;exact PySem.W.kia_one PySem.W.kitx_int I.kIn True.intro e (fun z=>nomatch z) h
 | str y=>obtain ⟨t,q⟩:=(show ∃ t,u=Value.str y t from rx);cases q;exact PySem.W.kia_one PySem.W.kitx_str I.kIn True.intro e (fun z=>nomatch z) h
 | flt y=>obtain ⟨t,q⟩:=(show ∃ t,u=Value.float y t from rx);cases q;exact PySem.W.kia_one PySem.W.kitx_float I.kIn True.intro e (fun z=>nomatch z) h
 | @lst a xs ea =>
  cases (show u=Value.ref a from rx)
  obtain ⟨_,_,n,_,h1⟩:=(show zc6 X.prog X.w H s.heap a (.lst xs) from I.hok a _ ea)
  exact PySem.W.kia_one PySem.W.kitx_list I.kIn ⟨_,h1,rfl⟩ e (fun z=>nomatch z) h
 | @frz a ob xs ea =>
  cases (show u=Value.ref a from rx)
  obtain ⟨_,_,_,n,_,h1⟩:=(show zc6 X.prog X.w H s.heap a (.frz ob (.lst xs)) from I.hok a _ ea)
  exact PySem.W.kia_one PySem.W.kitx_list I.kIn ⟨_,h1,rfl⟩ e (fun z=>nomatch z) h
 | @tup a xs ea =>
  cases (show u=Value.ref a from rx)
  obtain ⟨_,_,_,p⟩:=(show zc6 X.prog X.w H s.heap a (.tup xs) from I.hok a _ ea)
  obtain ⟨o,h1,h2,_⟩:=p
  exact PySem.W.kia_one PySem.W.kitx_tuple I.kIn ⟨o,h1,h2⟩ e (fun z=>nomatch z) h
 | @dK a kvs ea =>
  cases (show u=Value.ref a from rx)
  obtain ⟨_,_,vs,_,p⟩:=(show zc6 X.prog X.w H s.heap a (.dK kvs) from I.hok a _ ea)
  obtain ⟨o,es,ep,h1,h2,_⟩:=p
  exact PySem.W.kia_one PySem.W.kitx_dict I.kIn ⟨o,h1,h2.1⟩ e (fun z=>nomatch z) h
 | @dT a kvs ea =>
  cases (show u=Value.ref a from rx)
  obtain ⟨_,_,xs,_,o,es,ep,h1,h2,_⟩:=(show zc6 X.prog X.w H s.heap a (.dT kvs) from I.hok a _ ea)
  exact PySem.W.kia_one PySem.W.kitx_dict I.kIn ⟨o,h1,h2.1⟩ e (fun z=>nomatch z) h
 | @ins a C dx fs ea cl ha hn htk hm =>
  cases (show u=Value.ref a from rx)
  obtain ⟨mA,O,_⟩:=zk9 I.hok ea
  obtain ⟨od,J,_⟩:=O.look
  exact PySem.W.kia_one (PySem.W.kitx_own (cl.get _) cl.hd ha hn htk hm) I.kIn J e (fun z=>nomatch z) h
end
end L2
namespace L2
open PySem PySem.Spec PyProof.Rows
structure Room (k:Nat) (A:Around):Prop where
 hd:A.handled=none
 dp:A.depth + 3 * k + 5 < recursionLimit
 un:A.units + 16 * k + 200 < cLine
theorem Room.mono {j k:Nat} {A:Around} (r:Room k A) (h:j ≤ k):Room j A:=⟨r.hd,by have:=r.dp;omega,by have:=r.un;omega⟩
theorem Room.deeper {k:Nat} {A:Around} (r:Room (k + 1) A) (env:Env):Room k (A.deeper env) :=
 ⟨r.hd,by have:=r.dp;show A.depth + 1 + 3 * k + 5 < _;omega,by have:=r.un;show A.units + 3 + 16 * k + 200 < _;omega⟩
theorem zqm {A:Around} {C:Addr} {us:List Value} {kw:List (Str × Value)}:(A.under (.builtin "type.__call__" ⟨.ref C :: us,kw⟩)).depth=A.depth + 1:=by
 first | rfl | simp [Around.under,Code.weight,Code.isCreation,Code.isGuard,Code.isCaller,Code.frames,Code.isFrame,guardIds]
theorem zpW {A:Around} {C:Addr} {us:List Value} {kw:List (Str × Value)}:(A.under (.builtin "type.__call__" ⟨.ref C :: us,kw⟩)).units=A.units + 1:=by
 first | rfl | simp [Around.under,Code.cUnits,Code.frames,Code.isFrame]
theorem Room.make {k:Nat} {A:Around} (r:Room (k + 1) A) (C:Addr) (us:List Value) (kw:List (Str × Value)):Room k (A.under (.builtin "type.__call__" ⟨.ref C :: us,kw⟩)) :=
 ⟨r.hd,by have:=r.dp;rw [zqm];omega,by have:=r.un;rw [zpW];omega⟩
theorem Room.depth {k:Nat} {A:Around} (r:Room k A):A.depth < recursionLimit:=by have:=r.dp;omega
theorem Room.units {k:Nat} {A:Around} (r:Room k A):A.units + 64 < cLine:=by have:=r.un;omega
def tNil:TA:=fun _ H Q=>Q [] H
def zzB (ta:TE) (tr:TA):TA:=fun σ H Q=>ta σ H fun x H1=>tr σ H1 fun xs H2=>Q (x :: xs) H2
section
variable {X:Cx} {e:Expr} {es:List Expr} {te:TE} {t:TA} {pos:Pos}
theorem zsv:PA X [] tNil:=fun _ _ _ _ H Q I h=>Calls.spliced_nil ⟨[],H,I, .nil,h⟩
theorem zn2 (ha:PE X e te) (hr:PA X es t) (hs:starEach (e :: es) X.env=(false,eval e X.env) :: starEach es X.env:=by rfl):PA X (e :: es) (zzB te t):=by
 intro pos pins s σ H Q I h
 rw [hs]
 show wpAny _ _ (spliced ((false,eval e X.env) :: backTo pos (starEach es X.env))) _ _ s
 refine Calls.spliced_cons (thn (ha pins s σ H _ I h) fun u s1 ⟨x,H1,I1,r1,q1⟩=>?_)
 exact thn (hr pos pins s1 σ H1 _ I1 q1) fun us s2 ⟨xs,H2,I2,r2,q2⟩=>⟨x :: xs,H2,I2, .cons r1 r2,q2⟩
def tTup (t:TA):TE:=fun σ H Q=>t σ H fun xs H1=>xs.length ≤ sizeLine∧∀ p,H1 p=none→Q (.ref p) (upd H1 p (.tup xs))
def tLst (t:TA):TE:=fun σ H Q=>t σ H fun xs H1=>xs.length ≤ sizeLine∧∀ p,H1 p=none→Q (.ref p) (upd H1 p (.lst xs))
theorem zyq {x1} (h:PA X es t):PE X (.Tuple es x1 pos) (tTup t):=by
 intro pins s σ H Q I hq
 refine wpAny_Tuple_spliced (thn (h pos pins s σ H _ I hq) fun us s1 ⟨xs,H1,I1,r,z,q⟩=>⟨by rw [← r.length];exact z,?_⟩)
 have hf:H1 s1.heap.objs.size=none:=I1.hok.fresh (Nat.le_refl _)
 refine ⟨.ref s1.heap.objs.size,upd H1 s1.heap.objs.size (.tup xs),I1.laid (t':=s1.toks) (fun b u e=>Heap.get?_push_of_some _ e) (Nat.le_refl _) ?_,rfl,q _ hf⟩
 exact ⟨z,us,r,⟨_,Heap.get?_push_size _ rfl,rfl,_,rfl⟩⟩
theorem zx2 (h:PA X es t):PE X (.List es pos) (tLst t):=by
 intro pins s σ H Q I hq
 refine wpAny_List_spliced (thn (h pos pins s σ H _ I hq) fun us s1 ⟨xs,H1,I1,r,z,q⟩=>⟨by rw [← r.length];exact z,?_⟩)
 have hf:H1 s1.heap.objs.size=none:=I1.hok.fresh (Nat.le_refl _)
 refine ⟨.ref s1.heap.objs.size,upd H1 s1.heap.objs.size (.lst xs),I1.laid (t':=s1.toks) (fun b u e=>Heap.get?_push_of_some _ e) (Nat.le_refl _) ?_,rfl,q _ hf⟩
 exact ⟨z,us,0,r,Heap.get?_push_size _ rfl⟩
end
abbrev Sp:=List V→Hp→VK→XK→Prop
abbrev CXT:=List Env→Hp→Shared→XK→Value→Shared→Prop
structure Env0 (P:Program) (w:World) (K:PySem.W.Frag) (mg:Str→Option Value) (base:Heap) (A:Around) (outer:List Env) (s:Shared) (H:Hp):Prop where
 frames:A.frames=some outer
 mod:Mod K mg base
 bs:∀ b o,base.get? b=some o→s.heap.get? b=some o∧H b=none
 bsz:base.objs.size ≤ s.heap.objs.size
 funs:s.heap.FunFrames base outer
 frf:∀ b ∈ frs outer,H b=none
 hok:HOk P w H s.heap
 bare:AllBare s.gens
def CE (outer:List Env) (P:Program) (w:World) (H:Hp) (s:Shared) (Q:VK) (u:Value) (s':Shared):Prop :=
 ∃ v H',s'.os=s.os∧AllBare s'.gens∧Un (frs outer) [] H H' s.heap s'.heap∧HOk P w H' s'.heap∧RelV v u∧Q v H'
def CR (CX:CXT) (outer:List Env) (P:Program) (w:World) (H:Hp) (s:Shared) (Q:VK) (E:XK) (r:Result) (s':Shared):Prop :=
 match r with
 | .ok (.ret u)=>CE outer P w H s Q u s'
 | .ok _=>False
 | .error e=>CX outer H s E e s'
structure FnOk (P:Program) (w:World) (K:PySem.W.Frag) (mg:Str→Option Value) (base:Heap) (CX:CXT) (k:Nat) (f:Addr) (fd:FuncData) (ps:List Str) (sp:Sp):Prop where
 len:∀ vs H Q E,sp vs H Q E→vs.length=ps.length
 run:∀ (A:Around) (outer:List Env) (s:Shared) (H:Hp) (args:Args) (us:List Value) (vs:List V) (Q:VK) (E:XK),Room k A→Env0 P w K mg base A outer s H→BindsTo s fd args (ps.zip us)→Vals vs us→sp vs H Q E →
  codeAny (model P w) A (.call (.ref f) args) (CR CX outer P w H s Q E) s
theorem FnOk.mono {P:Program} {w:World} {K:PySem.W.Frag} {mg:Str→Option Value} {base:Heap} {CX:CXT} {j k:Nat} {f:Addr} {fd:FuncData} {ps:List Str} {sp:Sp} (F:FnOk P w K mg base CX j f fd ps sp) (h:j ≤ k) :
  FnOk P w K mg base CX k f fd ps sp:=⟨F.len,fun A outer s H args us vs Q E hr=>F.run A outer s H args us vs Q E (hr.mono h)⟩
theorem FnOk.imp {P:Program} {w:World} {K:PySem.W.Frag} {mg:Str→Option Value} {base:Heap} {CX:CXT} {k:Nat} {f:Addr} {fd:FuncData} {ps:List Str} {sp sp':Sp} (F:FnOk P w K mg base CX k f fd ps sp)
  (h:∀ vs H Q E,sp' vs H Q E→sp vs H Q E):FnOk P w K mg base CX k f fd ps sp' :=
 ⟨fun vs H Q E q=>F.len vs H Q E (h _ _ _ _ q),fun A outer s H args us vs Q E hr he hb hv hs=>F.run A outer s H args us vs Q E hr he hb hv (h _ _ _ _ hs)⟩
theorem Env0.make {P:Program} {w:World} {K:PySem.W.Frag} {mg:Str→Option Value} {base:Heap} {A:Around} {outer:List Env} {s:Shared} {H:Hp} (e:Env0 P w K mg base A outer s H) (C:Addr) (us:List Value) (kw:List (Str × Value)) :
  Env0 P w K mg base (A.under (.builtin "type.__call__" ⟨.ref C :: us,kw⟩)) outer s H:=⟨by first | exact e.frames | (simpa [Around.under,Code.envs,Code.isFrame,pushEnvs] using e.frames),e.mod,e.bs,e.bsz,e.funs,e.frf,e.hok,e.bare⟩
section
variable {X:Cx} {pins:List (Addr × Obj)} {σ:St} {H:Hp} {s s':Shared}
theorem Inv.env0 (I:Inv X pins σ H s):Env0 X.prog X.w X.K X.mg X.base X.A X.stack s H :=
 ⟨I.ok.frames,I.ok.mod,I.bs,Nat.le_trans I.ok.bsz I.sz,I.stack,I.znm,I.hok,I.bare⟩
theorem Inv.after {Q:VK} {u:Value} (I:Inv X pins σ H s) (h:CE X.stack X.prog X.w H s Q u s'):EP X pins σ Q u s':=by
 obtain ⟨v,H',os,bare,un,hok,r,q⟩:=h
 obtain ⟨hh,g,d,t,os'⟩:=s'
 obtain rfl:os'=s.os:=os
 exact ⟨v,H',I.call (h':=hh) (g':=g) (d':=d) (t':=t) (ch:=[]) un hok bare (fun b z=>absurd z (by simp)),r,q⟩
end
def zyo (sp:Sp) (dvs:List V) (E:XK) (t:TA):TE:=fun σ H Q=>t σ H fun vs H1=>sp (vs ++ dvs) H1 Q E
def zzE (C:Addr) (sp:Sp) (dvs:List V) (E:XK) (t:TA):TE:=fun σ H Q=>t σ H fun vs H1=>∀ x dx,H1 x=none→H1 dx=none→dx ≠ x →
 sp (.ref x :: (vs ++ dvs)) (upd (upd H1 dx (.own x)) x (.ins C dx [])) (fun v H2=>v = .non∧Q (.ref x) H2) E
def Binds (K:PySem.W.Frag) (fd:FuncData) (ps:List Str) (ds:List Value):Prop :=
 ∀ (s:Shared) (us:List Value),K.In s.heap→(us ++ ds).length=ps.length→BindsTo s fd ⟨us,[]⟩ (ps.zip (us ++ ds))
theorem Binds.all {K:PySem.W.Frag} {fd:FuncData} {ps:List Str} (h:∀ us:List Value,us.length=ps.length→bindArgs fd ⟨us,[]⟩ = pure (ps.zip us)):Binds K fd ps []:=fun s us _ hl=>by
 rw [List.append_nil] at hl ⊢
 exact .of_eq (h us hl)
def Passes (CX:CXT) (X:Cx) (E:XK):Prop:=∀ (pins:List (Addr × Obj)) (σ:St) (H:Hp) (s:Shared) (e:Value) (s':Shared),Inv X pins σ H s→CX X.stack H s E e s'→X.xe e s'
section
variable {X:Cx} {CX:CXT} {k:Nat} {f C:Addr} {fd:FuncData} {ps:List Str} {sp:Sp} {dvs:List V} {ds:List Value} {E:XK} {x m:Str} {p pos apos:Pos} {e o:Expr} {es:List Expr} {ta:TE} {t:TA}
theorem zxH {pins:List (Addr × Obj)} {σ:St} {H:Hp} {s:Shared} {Q:VK} {us:List Value} {vs:List V} (F:FnOk X.prog X.w X.K X.mg X.base CX k f fd ps sp) (hr:Room k X.A) (hb:Binds X.K fd ps ds) (hd:Vals dvs ds) (hx:Passes CX X E)
  (I:Inv X pins σ H s) (r:Vals vs us) (h:sp (vs ++ dvs) H Q E):wpAny (model X.prog X.w) X.A (call (.ref f) us) (EP X pins σ Q) X.xe s:=by
 have r2:Vals (vs ++ dvs) (us ++ ds):=r.append hd
 have hl:(us ++ ds).length=ps.length:=by rw [← r2.length];exact F.len _ _ _ _ h
 refine wpAny_call (codeAny_mono (F.run X.A X.stack s H ⟨us,[]⟩ (us ++ ds) (vs ++ dvs) Q E hr I.env0 (hb s us I.kIn hl) r2 h) fun r s' hq=>?_)
 cases r with
 | error e=>exact hx pins σ H s e s' I hq
 | ok fl =>
  cases fl with
  | ret u=>exact I.after hq
  | next=>exact False.elim hq
  | brk=>exact False.elim hq
  | cont=>exact False.elim hq
theorem zw2 (F:FnOk X.prog X.w X.K X.mg X.base CX k f fd ps sp) (hr:Room k X.A) (hg:Gl X x) (hm:X.mg x=some (.ref f)) (hk:PySem.W.keepIn X.K (.ref f)=true) (hb:Binds X.K fd ps ds) (hd:Vals dvs ds) (hx:Passes CX X E)
  (ha:PA X (e :: es) t) (hdb:(x == ("__debug__" : Str))=false:=by decide) (he:starEach (e :: es) X.env=(false,eval e X.env) :: starEach es X.env:=by rfl) (hpl:(backTo pos (starEach es X.env)).any (·.1)=false:=by rfl) :
  PE X (.Call (.Name x p) (e :: es) [] pos) (zyo sp dvs E t):=by
 intro pins s σ H Q I h
 refine wpAny_Call_Name_kw (zh3 I hg hm ?_ hdb)
 refine PySem.W.callWith_K (h₀:=X.base) I.ok.mod.kin hk (thn (ha pos pins s σ H _ I h) fun us s1 ⟨vs,H1,I1,r,q⟩=>⟨I1.kIn,?_⟩) he hpl
 exact zxH F hr hb hd hx I1 r q
structure Mk (K:PySem.W.Frag) (C f:Addr):Prop where
 makes:PySem.W.makesIn K C=true
 init:PySem.W.findIn K (.ref C) "__init__" = some (some (.ref f))
 fn:PySem.W.isFn K (.ref f)=true
 kp:PySem.W.keepIn K (.ref C)=true
theorem zut {pins:List (Addr × Obj)} {σ:St} {H:Hp} {s:Shared} {Q:VK} {us:List Value} {vs:List V} (M:Mk X.K C f) (F:FnOk X.prog X.w X.K X.mg X.base CX k f fd ps sp) (hr:Room (k + 1) X.A) (hb:Binds X.K fd ps ds) (hd:Vals dvs ds)
  (hx:Passes CX X E) (I:Inv X pins σ H s) (r:Vals vs us)
  (h:∀ x dx,H x=none→H dx=none→dx ≠ x→sp (.ref x :: (vs ++ dvs)) (upd (upd H dx (.own x)) x (.ins C dx [])) (fun v H2=>v = .non∧Q (.ref x) H2) E) :
  wpAny (model X.prog X.w) X.A (call (.ref C) us) (EP X pins σ Q) X.xe s:=by
 have hq:=h (s.heap.objs.size + 1) s.heap.objs.size (I.hok.fresh (Nat.le_succ _)) (I.hok.fresh (Nat.le_refl _)) (Nat.ne_of_lt (Nat.lt_succ_self _))
 have I2:=Inv.made (C:=C) I
 have r2:Vals (V.ref (s.heap.objs.size + 1) :: (vs ++ dvs)) (Value.ref (s.heap.objs.size + 1) :: (us ++ ds)) := .cons rfl (r.append hd)
 have hl:(Value.ref (s.heap.objs.size + 1) :: us ++ ds).length=ps.length:=by
  have e:=r2.length
  rw [F.len _ _ _ _ hq] at e
  exact e.symm
 refine wpAny_call (zuo (f:=f) I.kIn M.makes M.init (beq_iff_eq.mp M.fn) (codeAny_mono (F.run _ X.stack _ _ ⟨Value.ref (s.heap.objs.size + 1) :: us,[]⟩ (Value.ref (s.heap.objs.size + 1) :: (us ++ ds)) _ _ E (hr.make C us [])
  (I2.env0.make C us []) (hb _ (Value.ref (s.heap.objs.size + 1) :: us) I2.kIn hl) r2 hq) fun r s' hq'=>?_))
 cases r with
 | error e=>exact hx pins σ _ _ e s' I2 hq'
 | ok fl =>
  cases fl with
  | ret u =>
   obtain ⟨v,H',I3,rv,ev,q3⟩:=I2.after hq'
   subst ev
   exact ⟨rv,⟨V.ref (s.heap.objs.size + 1),H',I3,rfl,q3⟩⟩
  | next=>exact False.elim hq'
  | brk=>exact False.elim hq'
  | cont=>exact False.elim hq'
theorem zvX (M:Mk X.K C f) (F:FnOk X.prog X.w X.K X.mg X.base CX k f fd ps sp) (hr:Room (k + 1) X.A) (hg:Gl X x) (hm:X.mg x=some (.ref C)) (hb:Binds X.K fd ps ds) (hd:Vals dvs ds) (hx:Passes CX X E)
  (ha:PA X (e :: es) t) (hdb:(x == ("__debug__" : Str))=false:=by decide) (he:starEach (e :: es) X.env=(false,eval e X.env) :: starEach es X.env:=by rfl) (hpl:(backTo pos (starEach es X.env)).any (·.1)=false:=by rfl) :
  PE X (.Call (.Name x p) (e :: es) [] pos) (zzE C sp dvs E t):=by
 intro pins s σ H Q I h
 refine wpAny_Call_Name_kw (zh3 I hg hm ?_ hdb)
 refine PySem.W.callWith_K (h₀:=X.base) I.ok.mod.kin M.kp (thn (ha pos pins s σ H _ I h) fun us s1 ⟨vs,H1,I1,r,q⟩=>⟨I1.kIn,?_⟩) he hpl
 exact zut M F hr hb hd hx I1 r q
end
section
variable {X:Cx} {CX:CXT} {k:Nat} {f C:Addr} {fd:FuncData} {ps ks:List Str} {sp:Sp} {E:XK} {x m:Str} {p pos apos kpos:Pos} {e o:Expr} {es:List Expr} {kws:List Keyword} {te ta:TE} {t tk:TA} {nm:Option Str}
structure zAe (K:PySem.W.Frag) (fd:FuncData) (ps ks:List Str) (g:List Value→List Value→List Value) (gV:List V→List V→List V):Prop where
 to:∀ (s:Shared) (us ws:List Value),K.In s.heap→(g us ws).length=ps.length→BindsTo s fd ⟨us,ks.zip ws⟩ (ps.zip (g us ws))
 rel:∀ {vs:List V} {us:List Value} {zs:List V} {ws:List Value},Vals vs us→Vals zs ws→Vals (gV vs zs) (g us ws)
variable {g:List Value→List Value→List Value} {gV:List V→List V→List V}
end
structure zaq (N P:List Str) (sc:Scope):Prop where
 kind:sc.kind = .function
 co:sc.isCoroutine=false
 gen:sc.isGenerator=false
 nd:N.Nodup
 pre:N.take P.length=P
 par:∀ x ∈ P,sc.names.lookup x=some .local∨sc.names.lookup x=some .cell
 nofree:∀ y ∈ sc.names,y.2 ≠ .free
theorem zmT {kindOf:Str→Option NameKind} {x:Str}:∀ {binds:List (Str × Value)} {m:Str→Option Value},(∀ v,(x,v) ∉ binds)→bindL kindOf binds m x=m x
 | [],_,_=>rfl
 | (n,v) :: r,m,h=>by
  unfold bindL
  rw [zmT fun w hw=>h w (List.mem_cons_of_mem _ hw)]
  split
  ·have:x ≠ n:=by rintro rfl;exact h v List.mem_cons_self
   simp [this]
  ·rfl
theorem zmw {kindOf:Str→Option NameKind} {x:Str}:∀ {binds:List (Str × Value)} {m:Str→Option Value},(∀ v,(x,v) ∉ binds)→bindC kindOf binds m x=m x
 | [],_,_=>rfl
 | (n,v) :: r,m,h=>by
  unfold bindC
  rw [zmw fun w hw=>h w (List.mem_cons_of_mem _ hw)]
  split
  ·rfl
  ·have:x ≠ n:=by rintro rfl;exact h v List.mem_cons_self
   simp [this]
theorem zmA {kindOf:Str→Option NameKind} {x:Str} {v:Value}:∀ {P:List Str} {vs:List Value} {i:Nat} {m:Str→Option Value},P.Nodup→P[i]? = some x→vs[i]? = some v→kindOf x=some .local →
  bindL kindOf (P.zip vs) m x=some v
 | [],_,_,_,_,h,_,_=>by simp at h
 | _ :: _,[],_,_,_,_,h,_=>by simp at h
 | p :: P,w :: vs,0,m,nd,h1,h2,hk=>by
  simp at h1 h2;subst h1;subst h2
  show bindL kindOf ((p,w) :: P.zip vs) m p=_
  unfold bindL
  rw [zmT fun v hv=>(List.nodup_cons.mp nd).1 (List.of_mem_zip hv).1,if_pos hk]
  simp
 | p :: P,w :: vs,i + 1,m,nd,h1,h2,hk=>by
  show bindL kindOf ((p,w) :: P.zip vs) m x=_
  unfold bindL
  exact zmA (i:=i) (List.nodup_cons.mp nd).2 (by simpa using h1) (by simpa using h2) hk
theorem zl9 {kindOf:Str→Option NameKind} {x:Str} {v:Value}:∀ {P:List Str} {vs:List Value} {i:Nat} {m:Str→Option Value},P.Nodup→P[i]? = some x→vs[i]? = some v→kindOf x ≠ some .local →
  bindC kindOf (P.zip vs) m x=some v
 | [],_,_,_,_,h,_,_=>by simp at h
 | _ :: _,[],_,_,_,_,h,_=>by simp at h
 | p :: P,w :: vs,0,m,nd,h1,h2,hk=>by
  simp at h1 h2;subst h1;subst h2
  show bindC kindOf ((p,w) :: P.zip vs) m p=_
  unfold bindC
  rw [zmw fun v hv=>(List.nodup_cons.mp nd).1 (List.of_mem_zip hv).1,if_neg hk]
  simp
 | p :: P,w :: vs,i + 1,m,nd,h1,h2,hk=>by
  show bindC kindOf ((p,w) :: P.zip vs) m x=_
  unfold bindC
  exact zl9 (i:=i) (List.nodup_cons.mp nd).2 (by simpa using h1) (by simpa using h2) hk
def start (N:List Str) (vs:List V):St:=vs.map some ++ List.replicate (N.length - vs.length) none
def cxOf (CX:CXT) (P:Program) (w:World) (K:PySem.W.Frag) (mg:Str→Option Value) (base:Heap) (N:List Str) (qual:Str) (scope:Scope) (f:Addr) (cd:Value) (A:Around) (outer:List Env) (s:Shared) (H:Hp) (E:XK):Cx where
 prog:=P
 w:=w
 K:=K
 mg:=mg
 base:=base
 A:=A.deeper (envOfC qual scope s.heap.objs.size f cd)
 N:=N
 s₀:=s
 H₀:=H
 env:=envOfC qual scope s.heap.objs.size f cd
 outer:=outer
 stack:=envOfC qual scope s.heap.objs.size f cd :: outer
 ex:=[]
 calm:=true
 fn:=fun _=>true
 pn:=[]
 xe:=fun e s'=>wpAny (model P w) (A.deeper (envOfC qual scope s.heap.objs.size f cd)) (leaving (envOfC qual scope s.heap.objs.size f cd) e) (fun _ s''=>CX outer H s E e s'') (fun e' s''=>CX outer H s E e' s'') s'
theorem zoD {sc:Scope} {n:Nat} {x:Str} (h:sc.names.lookup x=some .cell):∃ c,(cellsFrom n sc.names []).lookup x=some c:=by
 have q:=PySem.W.cellsFrom_some sc.names n [] (.inl h)
 exact Option.isSome_iff_exists.mp q
theorem zj4 {CX:CXT} {P:Program} {w:World} {K:PySem.W.Frag} {mg:Str→Option Value} {base:Heap} {N ps:List Str} {qual:Str} {scope:Scope} {f:Addr} {cd:Value} {A:Around} {outer:List Env} {s s1:Shared} {H:Hp} {E:XK} {us:List Value} {vs:List V}
  (S:zaq N ps scope) (hd:A.handled=none) (e0:Env0 P w K mg base A outer s H) (hl:vs.length=ps.length) (r:Vals vs us)
  (x:InCallC s s.heap.objs.size (bindL (envOfC qual scope s.heap.objs.size f cd).kindOf (ps.zip us) fun _=>none) (cellsFrom (s.heap.objs.size + 1) scope.names []) (bindC (envOfC qual scope s.heap.objs.size f cd).kindOf (ps.zip us) fun _=>none) s1) :
  Inv (cxOf CX P w K mg base N qual scope f cd A outer s H E) [] (start N vs) H s1:=by
 have hpl:ps.length ≤ N.length:=by have:=congrArg List.length S.pre;rw [List.length_take] at this;omega
 obtain ⟨h1,tk,rfl,hk⟩:=x.done
 have noA:∀ b:Addr,b ∉ (cxOf CX P w K mg base N qual scope f cd A outer s H E).ex:=fun b z=>absurd (show b ∈ ([] : List Addr) from z) (by simp)
 refine ⟨⟨e0.mod,S.kind,rfl,rfl,Nat.le_refl _,fun y z c h1 h2=>?_,fun y hy=>?_,fun y c _ h=>?_,fun _=>hd,Around.frames_deeper e0.frames, .inr ⟨rfl,rfl⟩,fun b z=>absurd z (noA b),e0.bs,e0.bsz,fun b _ _=>noA b,fun b z=>absurd z (noA b),e0.funs,e0.frf⟩,
  rfl,e0.bare,Un.kept hk,⟨_,x.toInCall.ns,fun i y v h1 h2 h3=>?_⟩,fun y c h=>⟨_,x.cell y c h⟩,e0.hok.fresh (Nat.le_refl _),fun y c h=>?_,fun p hp=>absurd (show p ∈ ([] : List (Addr × Obj)) from hp) (by simp),e0.hok.kept hk,?_⟩
 ·exact name_of_addr x.apart (PySem.mem_of_lookup h1) (PySem.mem_of_lookup h2)
 ·have hy:scope.names.lookup y=some .cell∨scope.names.lookup y=some .free:=hy
  rcases hy with hy | hy
  ·exact zoD hy
  ·exact absurd rfl (S.nofree _ (PySem.mem_of_lookup hy))
 ·exact Nat.le_of_lt (x.above y c (PySem.mem_of_lookup h))
 ·have hi:i < vs.length:=by
   unfold start at h2
   by_cases hi:i < vs.length
   ·exact hi
   ·rw [List.getElem?_append_right (by simpa using hi)] at h2
    rw [List.getElem?_replicate] at h2
    split at h2 <;> cases h2
  have ha:vs[i]? = some v:=by
   unfold start at h2
   rw [List.getElem?_append_left (by simpa using hi),List.getElem?_map] at h2
   cases e:vs[i]? with
   | none=>rw [e] at h2;cases h2
   | some a=>rw [e] at h2;cases h2;rfl
  obtain ⟨u,hu,rv⟩:=r.get ha
  have hp:ps[i]? = some y:=by
   rw [← S.pre,List.getElem?_take_of_lt (by omega)];exact h1
  have ndP:ps.Nodup:=by rw [← S.pre];exact S.nd.sublist (List.take_sublist _ _)
  refine ⟨u,rv,?_⟩
  rcases S.par y (List.mem_of_getElem? hp) with k | k
  ·exact .inl ⟨k,zmA ndP hp hu k⟩
  ·obtain ⟨c,e⟩:=zoD (n:=s.heap.objs.size + 1) k
   refine .inr ⟨.inl k,c,e,?_⟩
   have q:=x.cell y c e
   rw [zl9 ndP hp hu (by show scope.names.lookup y ≠ _;rw [k];decide)] at q
   exact q
 ·exact e0.hok.fresh (Nat.le_of_lt (x.above y c (PySem.mem_of_lookup h)))
 ·unfold start
  show _=N.length
  rw [List.length_append,List.length_map,List.length_replicate]
  omega
theorem zrb {CX:CXT} {P:Program} {w:World} {K:PySem.W.Frag} {mg:Str→Option Value} {base:Heap} {k:Nat} {f:Addr} {name qual:Str} {params:Arguments} {body:List Stmt} {scope:Scope} {dV kV doc pm cdv ct oc:Value} {an od:Option Addr}
  {osl:Array (Option Value)} {N ps:List Str} {sp:Sp} (lk:K.lookup f=some ⟨oc,od, .func (PySem.W.fnOf name qual params body scope dV kV doc pm an cdv ct),osl⟩) (hcd:PySem.W.codeIn K cdv qual=true) (S:zaq N ps scope)
  (len:∀ vs H Q E,sp vs H Q E→vs.length=ps.length)
  (hbody:∀ (A:Around) (outer:List Env) (s:Shared) (H:Hp) (vs:List V) (Q:VK) (E:XK),Room k (A.deeper (envOfC qual scope s.heap.objs.size f cdv))→sp vs H Q E →
   ∃ t,PSs (cxOf CX P w K mg base N qual scope f cdv A outer s H E) body t∧t { nx:=fun _ H'=>Q .non H',rt:=Q } (start N vs) H) :
  FnOk P w K mg base CX (k + 1) f (PySem.W.fnOf name qual params body scope dV kV doc pm an cdv ct) ps sp:=by
 refine ⟨len,fun A outer s H args us vs Q E hr e0 hb r hsp=>?_⟩
 have hl:=len _ _ _ _ hsp
 have KX:K.In s.heap:=e0.mod.kin.keeps fun b o e=>(e0.bs b o e).1
 have lim:s.heap.NoLimit:=e0.mod.nolimit.keeps fun b o e=>(e0.bs b o e).1
 have hkind:∀ y ∈ ps.zip us,scope.names.lookup y.1=some .local∨(scope.names.lookup y.1=some .cell∧((cellsFrom (s.heap.objs.size + 1) scope.names []).lookup y.1).isSome=true):=fun ⟨n,v⟩ hy=>by
  rcases S.par n (List.of_mem_zip hy).1 with q | q
  ·exact .inl q
  ·exact .inr ⟨q,PySem.W.cellsFrom_some _ _ _ (.inl q)⟩
 refine codeAny_call_function hr.depth (KX _ _ lk) rfl S.co S.gen rfl (PySem.W.codeRec_of KX hcd) (hb _ _ _ _ ?_)
 refine wpAny_newFunctionEnv_cells S.kind hkind fun env he s1 x=>?_
 subst he
 refine ⟨lim.keeps x.toInCall.keep,codeAny_func ?_⟩
 obtain ⟨t,ht,hq⟩:=hbody A outer s H vs Q E (hr.deeper _) hsp
 have I:Inv (cxOf CX P w K mg base N qual scope f cdv A outer s H E) [] (start N vs) H s1:=zj4 S hr.hd e0 hl r x
 refine wpAny_mono (ht [] s1 (start N vs) H _ I hq) (fun fl s' hs=>?_) fun e s' hs=>hs
 have fin:∀ {σ':St} {H':Hp} {v:V} {u:Value},Inv (cxOf CX P w K mg base N qual scope f cdv A outer s H E) [] σ' H' s'→RelV v u→Q v H'→CE outer P w H s Q u s' :=
  fun {σ' H' v u} J rv q=>⟨v,H',J.os,J.bare,J.base,J.hok,rv,q⟩
 cases fl with
 | ret u =>
  obtain ⟨v,σ',H',J,rv,q⟩:=hs
  exact fin J rv q
 | next =>
  obtain ⟨σ',H',J,q⟩:=hs
  exact fin (v:=V.non) (u:=Value.none) J rfl q
 | brk =>
  obtain ⟨_,_,_,q⟩:=hs
  exact False.elim q
 | cont =>
  obtain ⟨_,_,_,q⟩:=hs
  exact False.elim q
end L2
namespace L2
open PySem PySem.Spec PyProof.Rows
section
variable {X:Cx} {x:Str} {p pos:Pos} {e:Expr} {es:List Expr} {t:TA} {id T:String} {r:List V→Hp→VK→Prop}
def tCB (r:List V→Hp→VK→Prop) (t:TA):TE:=fun σ H Q=>t σ H fun vs H1=>r vs H1 Q
theorem zuA (hc:zhD X (.builtin id) r) (hg:Gl X x) (hm:X.mg x=none) (hv:bootBuiltins x=some (.builtin id)) (ha:PA X (e :: es) t) (hn:x ≠ "__name__":=by decide) (hdb:(x == ("__debug__" : Str))=false:=by decide)
  (he:starEach (e :: es) X.env=(false,eval e X.env) :: starEach es X.env:=by rfl) (hpl:(backTo pos (starEach es X.env)).any (·.1)=false:=by rfl):PE X (.Call (.Name x p) (e :: es) [] pos) (tCB r t):=by
 intro pins s σ H Q I h
 refine wpAny_Call_Name_kw (zmu I hg hm hv ?_ hn hdb)
 exact PyProof.Rows.callWith_builtin1 (thn (ha pos pins s σ H _ I h) fun us s1 ⟨vs,H1,I1,r1,q1⟩=>hc pins s1 σ H1 vs us Q I1 r1 q1) he hpl
end
end L2
namespace HT
open PySem PyProof.Rows
section
open PySem.SeqAt
open PySem.AutoSeq1 (wpAny_loadPart')
open PySem.MeetsSeq PySem.MeetsSeq2 PySem.MeetsSeq3
end
section
variable {prog:Program} {w:World} {A:Around} {E:Value→Shared→Prop} {s:Shared}
theorem zvm {t b:Addr} {vs ws:List Value} {Q:Value→Shared→Prop} (ht:IsTup s.heap t vs.toArray) (hb:IsTup s.heap b ws.toArray) (hv:vs ≠ [])
  (h1:ws=[]→Q (.ref t) s) (h2:ws ≠ []→Q (.ref s.heap.objs.size) { s with heap:=s.heap.push { cls := .type "tuple",data := .seq (vs ++ ws).toArray } })
  (hsz:vs.length + ws.length ≤ sizeLine):wpAny (model prog w) A (binaryOp .Add (.ref t) (.ref b)) Q E s:=by
 obtain ⟨⟨cls,dd,data,sl⟩,ho,hc,n,hd⟩:=id ht
 obtain ⟨⟨cls2,dd2,data2,sl2⟩,ho2,hc2,n2,hd2⟩:=id hb
 simp only at hc hd hc2 hd2
 subst hc hd hc2 hd2
 have e:vs.toArray ++ ws.toArray=(vs ++ ws).toArray:=by simp
 by_cases hw:ws=[]
 ·exact concat_meets ⟨_,ho,rfl⟩ ⟨_,ho2,rfl⟩ noFill_tuple_add seq_tuple_add PySem.F.slot_tuple_add PySem.F.entry_tuple_add (PySem.F.args_tuple_add_2 _ _)
   (tuple_addW1 t b vs.toArray ws.toArray n n2 dd dd2 sl sl2 (by simpa using hv) (by simp [hw])) ⟨ho,ho2,h1 hw⟩
 ·refine concat_meets ⟨_,ho,rfl⟩ ⟨_,ho2,rfl⟩ noFill_tuple_add seq_tuple_add PySem.F.slot_tuple_add PySem.F.entry_tuple_add (PySem.F.args_tuple_add_2 _ _)
   (tuple_addW2 t b vs.toArray ws.toArray n n2 dd dd2 sl sl2 (by simpa using hv) (by simpa using hw) (by rw [List.size_toArray,List.size_toArray];exact hsz)) ⟨ho,ho2,?_⟩
  rw [e]
  exact h2 hw
def sIx (n d:Nat):Option Int→Nat
 | none=>d
 | some v=>if v < 0 then (v + (n:Int)).toNat else min v.toNat n
theorem zoV (n d:Nat):sIx n d none=d:=rfl
theorem zw9 (n d k:Nat):sIx n d (some (k:Int))=min k n:=by
 show (if (k:Int) < 0 then ((k:Int) + (n:Int)).toNat else min (k:Int).toNat n)=min k n
 rw [if_neg (by omega),Int.toNat_natCast]
theorem zx3 (n d:Nat) (hd:d ≤ n) (o:Option Int):sIx n d o ≤ n:=by
 cases o with
 | none=>exact hd
 | some v =>
  show (if v < 0 then (v + (n:Int)).toNat else min v.toNat n) ≤ n
  by_cases hv:v < 0
  ·rw [if_pos hv];omega
  ·rw [if_neg hv];exact Nat.min_le_right _ _
theorem zsj (v:Int) (n d:Nat):(if v < 0 then max (v + (n:Int)) 0 else min v (n:Int))=((sIx n d (some v):Nat):Int):=by
 show (if v < 0 then max (v + (n:Int)) 0 else min v (n:Int))=(((if v < 0 then (v + (n:Int)).toNat else min v.toNat n):Nat):Int)
 by_cases hv:v < 0
 ·simp only [if_pos hv];omega
 ·simp only [if_neg hv];omega
theorem zpu (lo hi:Option Int) (n:Nat):Builtin.Slice.sliceAdjust lo hi 1 (n:Int)=(((sIx n 0 lo:Nat):Int),((sIx n n hi:Nat):Int)):=by
 have h1:¬ ((1:Int) < 0):=by omega
 unfold Builtin.Slice.sliceAdjust
 simp only [h1,if_false]
 refine Prod.ext ?_ ?_
 ·cases lo with
  | none=>rfl
  | some v=>exact zsj v n 0
 ·cases hi with
  | none=>rfl
  | some v=>exact zsj v n n
theorem zpB (i j:Nat):Builtin.Slice.slicePlaces (i:Int) (j:Int) 1=j - i:=by
 unfold Builtin.Slice.slicePlaces
 have h1:(1:Int) > 0:=by omega
 simp only [h1,if_true,Int.ediv_one]
 split <;> omega
theorem zkJ {v:Value} {o:Option Int} {Q:Option Int→Shared→Prop} (p:IsPart v o) (h:Q o s):wpAny (model prog w) A (Builtin.Slice.slicePartIndex v) Q E s:=by
 cases p with
 | none=>exact slicePart_none h
 | int i t=>exact slicePart_int h
theorem ziN {sl:Addr} {vl vu:Value} {lo hi:Option Int} {n:Nat} {Q:Int × Int × Nat→Shared→Prop} (hs:s.heap.IsSliceOf sl vl vu .none) (pl:IsPart vl lo) (pu:IsPart vu hi)
  (h:Q (((sIx n 0 lo:Nat):Int),1,sIx n n hi - sIx n 0 lo) s):wpAny (model prog w) A (Builtin.Slice.sliceApplied (.ref sl) (pure (n:Int))) Q E s:=by
 obtain ⟨os,hos,hcs,hds⟩:=id hs
 unfold Builtin.Slice.sliceApplied Builtin.Slice.sliceFields
 refine wpAny_bind (wpAny_bind (wpAny_field hos hds (x:=vl) rfl (wpAny_bind (wpAny_field hos hds (x:=vu) rfl (wpAny_bind (wpAny_field hos hds (x := .none) rfl (wpAny_pure ?_)))))))
 refine wpAny_bind (slicePart_none ?_)
 show wpAny _ _ (if ((1:Int) == 0)=true then _ else _) _ _ s
 rw [if_neg (by decide)]
 refine wpAny_bind (zkJ pl (wpAny_bind (zkJ pu (wpAny_bind (wpAny_pure ?_)))))
 show wpAny _ _ (match Builtin.Slice.sliceAdjust lo hi 1 (n:Int) with | (lo,hi)=>pure (lo,(1:Int),Builtin.Slice.slicePlaces lo hi 1)) _ _ s
 rw [zpu lo hi n]
 show wpAny _ _ (pure (((sIx n 0 lo:Nat):Int),(1:Int),Builtin.Slice.slicePlaces ((sIx n 0 lo:Nat):Int) ((sIx n n hi:Nat):Int) 1)) _ _ s
 rw [zpB]
 exact wpAny_pure h
theorem ztU (xs:Array Value) (i k:Nat):((List.range k).filterMap fun (m:Nat)=>xs[((i:Int) + (m:Int) * 1).toNat]?).toArray=((xs.toList.drop i).take k).toArray:=by
 have e:(fun (m:Nat)=>xs[((i:Int) + (m:Int) * 1).toNat]?)=fun m=>xs[i + m]?:=by
  funext m
  have:((i:Int) + (m:Int) * 1).toNat=i + m:=by omega
  rw [this]
 rw [e]
 have:=pick_run xs i k
 rw [List.filterMap_map] at this
 have e2:((fun x=>xs[x]?) ∘ fun x=>i + x)=fun m=>xs[i + m]?:=rfl
 rw [e2] at this
 rw [this]
theorem zij {t sl:Addr} {items:Array Value} {vl vu:Value} {lo hi:Option Int} {Q:Value→Shared→Prop} (ht:IsTup s.heap t items) (hs:s.heap.IsSliceOf sl vl vu .none) (pl:IsPart vl lo) (pu:IsPart vu hi)
  (hw:¬ (sIx items.size 0 lo=0∧sIx items.size items.size hi=items.size))
  (h:Q (.ref s.heap.objs.size) { s with heap:=s.heap.push { cls := .type "tuple",data := .seq ((items.toList.drop (sIx items.size 0 lo)).take (sIx items.size items.size hi - sIx items.size 0 lo)).toArray } })
  (hsz:items.size ≤ sizeLine):wpAny (model prog w) A (getItem (.ref t) (.ref sl)) Q E s:=by
 have htake:sizeOk (.seq ((items.toList.drop (sIx items.size 0 lo)).take (sIx items.size items.size hi - sIx items.size 0 lo)).toArray):=by
  show ((items.toList.drop (sIx items.size 0 lo)).take (sIx items.size items.size hi - sIx items.size 0 lo)).toArray.size ≤ sizeLine
  rw [List.size_toArray,List.length_take,List.length_drop,Array.length_toList]
  omega
 have hj:sIx items.size items.size hi ≤ items.size:=zx3 _ _ (Nat.le_refl _) hi
 obtain ⟨os,hos,hcs,hds⟩:=id hs
 have hTs:s.TypeIs (.ref sl) "slice":=⟨os,hos,hcs⟩
 unfold getItem
 try with_reducible refine wpAny_holding ?_
 first | refine wpAny_bind (wpAny_pure ?_) | skip
 refine wpAny_bind (wpAny_sequenceKey ht.typeIs (by decide) ?_)
 refine wpAny_bind (wpAny_callSpecial?_slot (name:=Str.ofString "__getitem__") ht.typeIs PyProof.Rows.slot_tuple_getitem
  (wpAny_call_entry PyProof.Rows.slot_tuple_getitem ht.typeIs entry_tuple_getitem ?_ (args_tuple_getitem _ _)))
 show wpAny _ _ (Builtin.Tuple.tupleItemsOf (.ref t) >>= _) _ _ s
 refine wpAny_bind (tupleItemsOf_ ht ?_)
 refine wpAny_bind (wpAny_typeOf hTs ?_)
 rw [if_pos (by decide)]
 refine wpAny_bind (ziN hs pl pu ?_)
 have hno:¬ ((((sIx items.size 0 lo:Nat):Int) == 0 && (1:Int) == 1 && (sIx items.size items.size hi - sIx items.size 0 lo) == items.size)=true):=by
  intro q
  rw [Bool.and_eq_true,Bool.and_eq_true] at q
  have q1:((sIx items.size 0 lo:Nat):Int)=0:=eq_of_beq q.1.1
  have q2:sIx items.size items.size hi - sIx items.size 0 lo=items.size:=eq_of_beq q.2
  exact hw ⟨by omega,by omega⟩
 show wpAny _ _ (if (((sIx items.size 0 lo:Nat):Int) == 0 && (1:Int) == 1 && (sIx items.size items.size hi - sIx items.size 0 lo) == items.size)=true then _ else _) _ _ s
 rw [if_neg hno,ztU]
 first
  | exact wpAny_bind (m:=Builtin.Tuple.tupleExact _) (wpAny_newObj_type (wpAny_pure ⟨_,rfl,wpAny_pure h⟩) htake)
  | exact wpAny_bind (m:=Builtin.Tuple.tupleExact _) (wpAny_newObj_type (wpAny_bind (wpAny_pure (wpAny_pure ⟨_,rfl,wpAny_pure h⟩))) htake)
  | exact wpAny_bind (wpAny_bind (m:=Builtin.Tuple.tupleExact _) (wpAny_newObj_type (wpAny_pure (wpAny_pure ⟨_,rfl,wpAny_pure h⟩)) htake))
  | exact wpAny_bind (wpAny_bind (m:=Builtin.Tuple.tupleExact _) (wpAny_newObj_type (wpAny_pure ⟨_,rfl,wpAny_pure h⟩) htake))
end
end HT
namespace L2
open PySem PySem.Spec PyProof.Rows
abbrev TO:=St→Hp→(Option Int→Hp→Prop)→Prop
def PO (X:Cx) (e:Option Expr) (t:TO):Prop :=
 ∀ (pins:List (Addr × Obj)) (s:Shared) (σ:St) (H:Hp) (Q:Option Int→Hp→Prop),Inv X pins σ H s→t σ H Q →
  wpAny (model X.prog X.w) X.A (evalPart e X.env) (fun u s'=>∃ o H',Inv X pins σ H' s'∧IsPart u o∧Q o H') X.xe s
def zwA:TO:=fun _ H Q=>Q none H
def zzs (t:TE):TO:=fun σ H Q=>t σ H fun x H1=>∃ i,x = .int i∧Q (some i) H1
theorem intsAre_of {ns:List Int}:∀ {us:List Value},Vals (ns.map V.int) us→IntsAre us ns:=by
 induction ns with
 | nil=>intro us r;rw [List.map_nil] at r;cases r;exact .nil
 | cons n ns ih =>
  intro us r
  rw [List.map_cons] at r
  cases r with
  | cons r1 r2 =>
   obtain ⟨t,e⟩:=r1
   subst e
   exact .cons n t (ih r2)
section
variable {X:Cx} {e:Expr} {te:TE} {lo hi:Option Expr} {tl th:TO} {pos p2:Pos}
theorem zvL:PO X none zwA:=by
 intro pins s σ H Q I h
 rw [evalPart_none]
 exact wpAny_pure ⟨none,H,I, .none,h⟩
theorem zvD (h:PE X e te):PO X (some e) (zzs te):=by
 intro pins s σ H Q I hw
 rw [evalPart_some]
 refine thn (h pins s σ H _ I hw) fun u s1 ⟨x,H1,I1,r1,q1⟩=>?_
 obtain ⟨i,rfl,q⟩:=q1
 obtain ⟨t,rfl⟩:=r1
 exact ⟨some i,H1,I1, .int i t,q⟩
def SlR (X:Cx) (r:V→Option Int→Option Int→Hp→VK→Prop):Prop :=
 ∀ (pins:List (Addr × Obj)) (s:Shared) (σ:St) (H:Hp) (x:V) (v vl vu:Value) (lo hi:Option Int) (sl:Addr) (Q:VK),Inv X pins σ H s→RelV x v→s.heap.IsSliceOf sl vl vu .none→IsPart vl lo→IsPart vu hi→r x lo hi H Q →
  ∃ T id,typeLookup (.type T) "__getitem__" = pure (some (.builtin id))∧s.TypeIs v T∧wpAny (model X.prog X.w) X.A (getItem v (.ref sl)) (EP X pins σ Q) X.xe s
theorem SlR.or {r r':V→Option Int→Option Int→Hp→VK→Prop} (h:SlR X r) (h':SlR X r'):SlR X (fun x lo hi H Q=>r x lo hi H Q∨r' x lo hi H Q):=by
 intro pins s σ H x v vl vu lo hi sl Q I rx hs pl pu q
 rcases q with q | q
 ·exact h pins s σ H x v vl vu lo hi sl Q I rx hs pl pu q
 ·exact h' pins s σ H x v vl vu lo hi sl Q I rx hs pl pu q
def tSl (r:V→Option Int→Option Int→Hp→VK→Prop) (te:TE) (tl th:TO):TE:=fun σ H Q=>te σ H fun x H1=>tl σ H1 fun l H2=>th σ H2 fun u H3=>r x l u H3 Q
theorem ztz {r:V→Option Int→Option Int→Hp→VK→Prop} (hr:SlR X r) (he:PE X e te) (hl:PO X lo tl) (hu:PO X hi th):PE X (.Subscript e (.Slice lo hi none p2) pos) (tSl r te tl th):=by
 intro pins s σ H Q I h
 refine Subscript_ (thn (he pins s σ H _ I h) fun v s1 ⟨x,H1,I1,r1,q1⟩=>?_)
 refine wpAny_Slice (thn (hl pins s1 σ H1 _ I1 q1) fun vl s2 ⟨l,H2,I2,pl,q2⟩=>thn (hu pins s2 σ H2 _ I2 q2) fun vu s3 ⟨u,H3,I3,pu,q3⟩=>?_)
 rw [evalPart_none]
 refine wpAny_pure ?_
 have I4:Inv X pins σ H3 { s3 with heap:=s3.heap.push { cls := .type "slice",data := .fields #[vl,vu, .none] } }:=I3.kept (t':=s3.toks) fun b ob q=>Heap.get?_push_of_some _ q
 obtain ⟨T,id,hT,ht,hg⟩:=hr pins { s3 with heap:=s3.heap.push { cls := .type "slice",data := .fields #[vl,vu, .none] } } σ H3 x v vl vu l u s3.heap.objs.size Q I4 r1 (Heap.IsSliceOf.new ..) pl pu q3
 show wpAny (model X.prog X.w) X.A (subscriptTail e (.Slice lo hi none p2) v (.ref s3.heap.objs.size)) (EP X pins σ Q) X.xe { s3 with heap:=s3.heap.push { cls := .type "slice",data := .fields #[vl,vu, .none] } }
 exact tail_any (ops:=[.ref s3.heap.objs.size,v]) ht hT hg (by with_unfolding_all rfl)
def cutV (xs:List V) (lo hi:Option Int):List V:=(xs.drop (HT.sIx xs.length 0 lo)).take (HT.sIx xs.length xs.length hi - HT.sIx xs.length 0 lo)
theorem zjA (xs:List V) (lo hi:Option Int):(cutV xs lo hi).length ≤ xs.length:=by
 unfold cutV
 rw [List.length_take,List.length_drop]
 omega
def rSlT (K:PySem.W.Frag):V→Option Int→Option Int→Hp→VK→Prop:=fun x lo hi H Q=>∃ a xs,x = .ref a∧SqT K H a xs ∧
 ¬ (HT.sIx xs.length 0 lo=0∧HT.sIx xs.length xs.length hi=xs.length)∧∀ p,H p=none→Q (.ref p) (upd H p (.tup (cutV xs lo hi)))
theorem zxS:SlR X (rSlT X.K):=by
 intro pins s σ H x v vl vu lo hi sl Q I rx hs pl pu h
 obtain ⟨a,xs,rfl,hx,hw,q⟩:=h
 cases rx
 obtain ⟨its,r,ht,hz⟩:=I.tuple hx
 have hlen:its.toArray.size=xs.length:=by rw [List.size_toArray];exact r.length.symm
 refine ⟨"tuple",_,PyProof.Rows.slot_tuple_getitem.lookup,ht.typeIs,?_⟩
 refine HT.zij ht hs pl pu (by rw [hlen];exact hw) ?_ (by rw [hlen];exact hz)
 rw [hlen]
 refine ⟨.ref s.heap.objs.size,_,I.laid (t':=s.toks) (o := .tup (cutV xs lo hi)) (fun b ob q=>Heap.get?_push_of_some _ q) (Nat.le_refl _) ?_,rfl,q _ (I.hok.fresh (Nat.le_refl _))⟩
 exact ⟨Nat.le_trans (zjA xs lo hi) hz,_,(r.drop (HT.sIx xs.length 0 lo)).take (HT.sIx xs.length xs.length hi - HT.sIx xs.length 0 lo),IsTup.new _ _⟩
def zzP (K:PySem.W.Frag):R2:=fun x y H Q=>∃ a b xs ys,x = .ref a∧y = .ref b∧SqT K H a xs∧SqT K H b ys∧xs ≠ []∧xs.length + ys.length ≤ sizeLine ∧
 (ys=[]→Q (.ref a) H)∧(ys ≠ []→∀ p,H p=none→Q (.ref p) (upd H p (.tup (xs ++ ys))))
theorem Vals.znH {xs:List V} {us:List Value} (r:Vals xs us):us=[]↔xs=[]:=by
 cases r with
 | nil=>simp
 | cons _ _=>simp
theorem zxd:OpR X (binaryOp .Add) (zzP X.K):=by
 intro pins s σ H x y v u Q I rx ry h
 obtain ⟨a,b,xs,ys,rfl,rfl,ha,hb,hx,hz,q1,q2⟩:=h
 cases rx
 cases ry
 obtain ⟨its,r1,p1,_⟩:=I.tuple ha
 obtain ⟨its2,r2,p2,_⟩:=I.tuple hb
 refine HT.zvm p1 p2 (fun z=>hx (r1.znH.mp z)) (fun z=>⟨.ref a,H,I,rfl,q1 (r2.znH.mp z)⟩) (fun z=>?_) (by rw [← r1.length,← r2.length];exact hz)
 refine ⟨.ref s.heap.objs.size,_,I.laid (t':=s.toks) (o := .tup (xs ++ ys)) (fun b ob q=>Heap.get?_push_of_some _ q) (Nat.le_refl _) ?_,rfl,q2 (fun w=>z (r2.znH.mpr w)) _ (I.hok.fresh (Nat.le_refl _))⟩
 exact ⟨by rw [List.length_append];exact hz,_,r1.append r2,IsTup.new _ _⟩
end
end L2
namespace L2
open PySem PySem.Spec PyProof.Rows
def ixN (n:Nat) (i:Int):Option Nat:=if 0 ≤ i then (if i < n then some i.toNat else none) else if -(n:Int) ≤ i then some (i + n).toNat else none
def atI {α:Type} (xs:List α) (i:Int):Option α:=(ixN xs.length i).bind fun j=>xs[j]?
theorem zwR {n:Nat} {i:Int} {j:Nat} (h:ixN n i=some j):seqIndex? i n=some j∧j < n∧-(n:Int) ≤ i∧i < n:=by
 unfold ixN at h
 by_cases h0:0 ≤ i
 ·rw [if_pos h0] at h
  by_cases h1:i < n
  ·rw [if_pos h1] at h
   have e:i.toNat=j:=Option.some.inj h
   exact ⟨by rw [seqIndex_of h0 h1,e],by omega,by omega,h1⟩
  ·rw [if_neg h1] at h;cases h
 ·rw [if_neg h0] at h
  by_cases h1 : -(n:Int) ≤ i
  ·rw [if_pos h1] at h
   have e:(i + n).toNat=j:=Option.some.inj h
   exact ⟨by rw [seqIndex_neg (by omega) h1,e],by omega,h1,by omega⟩
  ·rw [if_neg h1] at h;cases h
theorem znr {α:Type} {xs:List α} {i:Int} {v:α} (h:atI xs i=some v):∃ j,seqIndex? i xs.length=some j∧xs[j]? = some v∧j < xs.length∧-(xs.length:Int) ≤ i∧i < xs.length:=by
 unfold atI at h
 cases e:ixN xs.length i with
 | none=>rw [e] at h;cases h
 | some j =>
  rw [e] at h
  obtain ⟨h1,h2,h3,h4⟩:=zwR e
  exact ⟨j,h1,h,h2,h3,h4⟩
theorem zlt {α:Type} (xs:List α) (v:α):atI (xs ++ [v]) (-1)=some v:=by
 have hl:(xs ++ [v]).length=xs.length + 1:=by simp
 have e:ixN (xs ++ [v]).length (-1)=some xs.length:=by
  unfold ixN
  rw [hl,if_neg (by decide),if_pos (by omega)]
  congr 1
  omega
 unfold atI
 rw [e]
 show (xs ++ [v])[xs.length]? = some v
 simp
def zrt (b:Expr):Prop:=∀ o i,subscripted b false o i=operate [o,i] (getItem o i)
def IxR (X:Cx) (r:R2):Prop :=
 ∀ (value slice:Expr) (pins:List (Addr × Obj)) (s:Shared) (σ:St) (H:Hp) (x y:V) (v u:Value) (Q:VK),Inv X pins σ H s→RelV x v→RelV y u→r x y H Q →
  subscripted slice false v u=operate [v,u] (getItem v u)→wpAny (model X.prog X.w) X.A (subscriptTail value slice v u) (EP X pins σ Q) X.xe s
def MtR (X:Cx) (id:String) (r:V→List V→Hp→VK→Prop):Prop :=
 ∀ (pins:List (Addr × Obj)) (s:Shared) (σ:St) (H:Hp) (x:V) (xs:List V) (v:Value) (us:List Value) (Q:VK),Inv X pins σ H s→RelV x v→Vals xs us→r x xs H Q →
  wpAny (model X.prog X.w) X.A (call (.builtin id) (v :: us)) (EP X pins σ Q) X.xe s
section
variable {X:Cx} {a b:Expr} {ta tb:TE} {pos:Pos}
theorem IxR.or {r r':R2} (h:IxR X r) (h':IxR X r'):IxR X (fun x y H Q=>r x y H Q∨r' x y H Q):=by
 intro value slice pins s σ H x y v u Q I rx ry q hs
 rcases q with q | q
 ·exact h value slice pins s σ H x y v u Q I rx ry q hs
 ·exact h' value slice pins s σ H x y v u Q I rx ry q hs
theorem MtR.or {id:String} {r r':V→List V→Hp→VK→Prop} (h:MtR X id r) (h':MtR X id r'):MtR X id (fun x xs H Q=>r x xs H Q∨r' x xs H Q):=by
 intro pins s σ H x xs v us Q I rx rs q
 rcases q with q | q
 ·exact h pins s σ H x xs v us Q I rx rs q
 ·exact h' pins s σ H x xs v us Q I rx rs q
theorem zzy {r:R2} (hr:IxR X r) (ha:PE X a ta) (hb:PE X b tb) (hs:zrt b):PE X (.Subscript a b pos) (tOp r ta tb):=by
 intro pins s σ H Q I h
 exact Subscript_ (binT ha hb I h fun v u s2 x y H2 I2 rx ry q=>hr a b pins s2 σ H2 x y v u Q I2 rx ry q (hs _ _))
def rIxL (K:PySem.W.Frag):R2:=fun x y H Q=>∃ p xs i v,x = .ref p∧y = .int i∧SqL K H p xs∧atI xs i=some v∧Q v H
def rIxT (K:PySem.W.Frag):R2:=fun x y H Q=>∃ p xs i v,x = .ref p∧y = .int i∧SqT K H p xs∧atI xs i=some v∧Q v H
def rIxS:R2:=fun x y H Q=>∃ z i c,x = .str z∧y = .int i∧z.length ≤ sizeLine∧atI z.cps.toList i=some c∧Q (.str ⟨#[c]⟩) H
theorem zwa:IxR X (rIxL X.K):=by
 intro value slice pins s σ H x y v u Q I rx ry h hs
 obtain ⟨p,xs,i,z,rfl,rfl,hq,he,q⟩:=h
 cases rx
 obtain ⟨t,rfl⟩:=ry
 obtain ⟨its,r,pl,hz⟩:=I.list hq
 obtain ⟨j,h1,h2,h3,h4,h5⟩:=znr he
 obtain ⟨w,ew,rw'⟩:=r.get h2
 have hl:=r.length
 have hn:=zo3
 have fin:EP X pins σ Q w s:=⟨z,H,I,rw',q⟩
 by_cases h0:0 ≤ i
 ·have hj:i.toNat=j:=by
   rw [seqIndex_of h0 h5] at h1
   exact Option.some.inj h1
  exact item_listR pl.isList h0 (by omega) (by rw [hj];simpa using ew) fin hs
 ·have hj:(i + (its.toArray.size:Int)).toNat=j:=by
   rw [seqIndex_neg (by omega) h4] at h1
   rw [List.size_toArray,← hl]
   exact Option.some.inj h1
  exact subscriptTail_builtinR (x:=w) pl.isList.typeIs slot_list_getitem.lookup
   (wpAny_getItem_list_neg (Q:=fun r s'=>r=w∧EP X pins σ Q r s') pl.isList (by omega) (by rw [List.size_toArray] <;> omega) (by omega) (by rw [hj];simpa using ew) ⟨rfl,fin⟩) hs
theorem zxZ:IxR X (rIxT X.K):=by
 intro value slice pins s σ H x y v u Q I rx ry h hs
 obtain ⟨p,xs,i,z,rfl,rfl,hq,he,q⟩:=h
 cases rx
 obtain ⟨t,rfl⟩:=ry
 obtain ⟨its,r,pl,hz⟩:=I.tuple hq
 obtain ⟨j,h1,h2,h3,h4,h5⟩:=znr he
 obtain ⟨w,ew,rw'⟩:=r.get h2
 have hl:=r.length
 have hn:=zo3
 have fin:EP X pins σ Q w s:=⟨z,H,I,rw',q⟩
 exact subscriptTail_builtinR (x:=w) pl.typeIs slot_tuple_getitem.lookup
  (getItem_tuple (j:=j) (Q:=fun r s'=>r=w∧EP X pins σ Q r s') pl (by omega) (by omega) (by rw [List.size_toArray,← hl];exact h1) (by simpa using ew) ⟨rfl,fin⟩) hs
theorem zxW:IxR X rIxS:=by
 intro value slice pins s σ H x y v u Q I rx ry h hs
 obtain ⟨z,i,c,rfl,rfl,hz,he,q⟩:=h
 obtain ⟨t,rfl⟩:=rx
 obtain ⟨t',rfl⟩:=ry
 obtain ⟨j,h1,h2,h3,h4,h5⟩:=znr he
 have hl:z.cps.toList.length=z.length:=by simp [Str.length]
 rw [hl] at h1 h4 h5
 have hn:=zo3
 exact tail_any (typeIs_str s z t) slot_str_getitem.lookup (getItem_str (c:=c) (by
  have e1:decide (i < -(2 ^ 63:Int))=false:=decide_eq_false (by omega)
  have e2:decide (i ≥ 2 ^ 63)=false:=decide_eq_false (by omega)
  rw [e1,e2,Bool.or_false]) (by rw [h1];simpa using h2) ⟨.str ⟨#[c]⟩,H,I.tok _,⟨_,rfl⟩,q⟩) hs
def rIx (K:PySem.W.Frag):R2:=fun x y H Q=>rIxL K x y H Q∨rIxT K x y H Q∨rIxS x y H Q
theorem zxM:IxR X (rIx X.K):=zwa.or (zxZ.or zxW)
theorem Inv.lst {pins:List (Addr × Obj)} {σ:St} {H:Hp} {s:Shared} {p:Addr} {xs:List V} (I:Inv X pins σ H s) (h:H p=some (.lst xs)) :
  ∃ (its:List Value) (n:Nat),Vals xs its∧s.heap.get? p=some { cls := .type "list",data := .seq its.toArray n }∧xs.length ≤ sizeLine:=by
 obtain ⟨z,its,n,r,e⟩:=I.hok p _ h
 exact ⟨its,n,r,e,z⟩
theorem zmr (lo hi:Option Int) (n:Nat):(sliceBounds lo hi none n).1=((HT.sIx n 0 lo:Nat):Int)∧(sliceBounds lo hi none n).2.1=((HT.sIx n n hi:Nat):Int)∧(sliceBounds lo hi none n).2.2=1:=by
 refine ⟨?_,?_,rfl⟩
 ·cases lo with
  | none=>simp [sliceBounds,HT.sIx]
  | some i =>
   simp only [sliceBounds,HT.sIx,Option.getD_none,show (1:Int) > 0 by decide,if_true]
   by_cases h:i < 0
   ·simp only [h,if_true] <;> omega
   ·simp only [h,if_false] <;> omega
 ·cases hi with
  | none=>simp [sliceBounds,HT.sIx]
  | some i =>
   simp only [sliceBounds,HT.sIx,Option.getD_none,show (1:Int) > 0 by decide,if_true]
   by_cases h:i < 0
   ·simp only [h,if_true] <;> omega
   ·simp only [h,if_false] <;> omega
theorem zlj (its:List Value) (lo hi:Option Int):slicePick its.toArray lo hi none=((its.drop (HT.sIx its.length 0 lo)).take (HT.sIx its.length its.length hi - HT.sIx its.length 0 lo)).toArray:=by
 obtain ⟨h1,h2,h3⟩:=zmr lo hi its.toArray.size
 unfold slicePick
 rw [h1,h2,h3]
 simp only [sliceRange_one,pick_run,List.size_toArray] <;> rfl
def rSlL (K:PySem.W.Frag):V→Option Int→Option Int→Hp→VK→Prop:=fun x lo hi H Q=>∃ a xs,x = .ref a∧SqL K H a xs∧∀ p,H p=none→Q (.ref p) (upd H p (.lst (cutV xs lo hi)))
theorem zvv:SlR X (rSlL X.K):=by
 intro pins s σ H x v vl vu lo hi sl Q I rx hs pl pu h
 obtain ⟨a,xs,rfl,hx,q⟩:=h
 cases rx
 obtain ⟨its,r,ht,hz⟩:=I.list hx
 have hlen:=r.length
 refine ⟨"list",_,slot_list_getitem.lookup,ht.isList.typeIs,?_⟩
 refine wpAny_getItem_list_slice ht.isList hs pl pu .none (by simp) ?_ (by rw [List.size_toArray] <;> omega)
 rw [zlj,← hlen]
 refine ⟨.ref s.heap.objs.size,_,I.laid (t':=s.toks) (o := .lst (cutV xs lo hi)) (fun b ob q=>Heap.get?_push_of_some _ q) (Nat.le_refl _) ?_,rfl,q _ (I.hok.fresh (Nat.le_refl _))⟩
 exact ⟨Nat.le_trans (zjA xs lo hi) hz,_,0,(r.drop (HT.sIx xs.length 0 lo)).take (HT.sIx xs.length xs.length hi - HT.sIx xs.length 0 lo),Heap.get?_push_size _ rfl⟩
theorem zmV:zhD X (.builtin "len") (fun xs H Q=>∃ p ys,xs=[.ref p]∧(SqL X.K H p ys∨SqT X.K H p ys)∧Q (.int ys.length) H):=by
 intro pins s σ H xs us Q I r h
 obtain ⟨p,ys,rfl,hq,q⟩:=h
 obtain ⟨u,rfl,rx⟩:=vals1 r
 cases rx
 have hn:=zo3
 rcases hq with hq | hq
 ·obtain ⟨its,r',pl,hz⟩:=I.list hq
  have hlen:=r'.length
  exact Calls.call_len_list pl.isList (by simp only [List.size_toArray] <;> omega) ⟨.int ys.length,H,I.tok _,⟨s.toks + 1,by rw [List.size_toArray,hlen]⟩,q⟩
 ·obtain ⟨its,r',pl,hz⟩:=I.tuple hq
  have hlen:=r'.length
  exact len_tuple pl (by simp only [List.size_toArray] <;> omega) ⟨.int ys.length,H,I.tok _,⟨s.toks + 1,by rw [List.size_toArray,hlen]⟩,q⟩
theorem zhD.or {f:Value} {r r':List V→Hp→VK→Prop} (h:zhD X f r) (h':zhD X f r'):zhD X f (fun xs H Q=>r xs H Q∨r' xs H Q):=by
 intro pins s σ H xs us Q I rs q
 rcases q with q | q
 ·exact h pins s σ H xs us Q I rs q
 ·exact h' pins s σ H xs us Q I rs q
def tyV (K:PySem.W.Frag) (T:String) (x:V) (H:Hp):Prop:=match x with
 | .str _=>T = "str"
 | .int _=>T = "int"
 | .ref p=>(T = "list"∧∃ xs,SqL K H p xs)∨(T = "tuple"∧∃ o,K.lookup p=some o∧o.cls = .type "tuple"∧o.dict=none) ∨
   (T = "dict"∧((∃ kvs,H p=some (.dK kvs))∨∃ kvs,H p=some (.dT kvs)))∨(T = "set"∧∃ S n,H p=some (.set S n))
 | _=>False
theorem zxz {pins:List (Addr × Obj)} {σ:St} {H:Hp} {s:Shared} {T:String} {x:V} {v:Value} (I:Inv X pins σ H s) (r:RelV x v) (ty:tyV X.K T x H) :
  s.TypeIs v T∧∀ a,v = .ref a→∃ ob,s.heap.get? a=some ob∧ob.dict=none:=by
 cases x with
 | str z =>
  obtain ⟨t,rfl⟩:=r
  cases (show T = "str" from ty)
  exact ⟨typeIs_str s z t,fun _ e=>nomatch e⟩
 | int i =>
  obtain ⟨t,rfl⟩:=r
  cases (show T = "int" from ty)
  exact ⟨typeIs_int s i t,fun _ e=>nomatch e⟩
 | ref p =>
  cases r
  rcases ty with ⟨rfl,xs,hq⟩ | ⟨rfl,o,hk,hc,hd⟩ | ⟨rfl,hk⟩ | ⟨rfl,S,n,hk⟩
  ·obtain ⟨its,_,pl,_⟩:=I.list hq
   refine ⟨pl.isList.typeIs,fun a e=>?_⟩
   cases e
   obtain ⟨o,n,e,c,hd,_⟩:=pl
   exact ⟨o,e,hd⟩
  ·refine ⟨⟨o,I.kIn p o hk,hc⟩,fun a e=>?_⟩
   cases e
   exact ⟨o,I.kIn _ o hk,hd⟩
  ·have z:∃ o,s.heap.get? p=some o∧o.ExactDict:=by
    rcases hk with ⟨kvs,hk⟩ | ⟨kvs,hk⟩
    ·obtain ⟨_,_,_,_,o,_,_,e,ex,_⟩:=I.hok p _ hk
     exact ⟨o,e,ex⟩
    ·obtain ⟨_,_,_,_,o,_,_,e,ex,_⟩:=I.hok p _ hk
     exact ⟨o,e,ex⟩
   obtain ⟨o,e,ex⟩:=z
   refine ⟨⟨o,e,ex.1⟩,fun a e2=>?_⟩
   cases e2
   exact ⟨o,e,ex.2.1⟩
  ·obtain ⟨o,_,_,_,e,ex,_⟩:=I.hok p _ hk
   refine ⟨⟨o,e,ex.1⟩,fun a e2=>?_⟩
   cases e2
   exact ⟨o,e,ex.2.1⟩
 | _=>exact False.elim ty
def tBM (K:PySem.W.Frag) (T:String) (r:V→List V→Hp→VK→Prop) (to:TE) (t:TA):TE:=fun σ H Q=>to σ H fun x H1=>tyV K T x H1∧t σ H1 fun xs H2=>r x xs H2 Q
variable {o e:Expr} {es:List Expr} {to:TE} {t:TA} {name:Str} {apos cpos:Pos} {T id:String} {r:V→List V→Hp→VK→Prop}
theorem zzX (pa:PlainAttrs T) (slot:Slot T name id) (hty:typeOf (.builtin id)=pure (.type "method_descriptor")) (hm:MtR X id r) (ho:PE X o to) (ha:PA X (e :: es) t)
  (hbase:attributeBase o name X.env (eval o X.env)=eval o X.env:=by rfl)
  (hfew:((backTo cpos (starEach (e :: es) X.env)).all (fun x=>!x.1) && (backToKw cpos (keywordEach [] X.env)).all (fun x=>x.1.isSome)
   && decide ((e :: es).length + ([] : List Keyword).length + (if ([] : List Keyword).isEmpty then 0 else 1) < 30))=true:=by rfl)
  (hline:(apos.endLine == cpos.line)=true:=by rfl) (hs:starEach (e :: es) X.env=(false,eval e X.env) :: starEach es X.env:=by rfl) (hplain:(backTo cpos (starEach es X.env)).any (·.1)=false:=by rfl) :
  PE X (.Call (.Attribute o name apos) (e :: es) [] cpos) (tBM X.K T r to t):=by
 intro pins s σ H Q I h
 refine wpAny_Call_method_late hbase hfew hline rfl (thn (ho pins s σ H _ I h) fun v s1 ⟨x,H1,I1,r1,ty,q1⟩=>?_)
 obtain ⟨h1,h2⟩:=zxz I1 r1 ty
 refine ⟨T,id,pa,slot,hty,h1,h2,?_⟩
 have hA:=ha cpos pins s1 σ H1 _ I1 q1
 rw [hs] at hA ⊢
 refine Calls.callWith_builtin (by show (false || (backTo cpos (starEach es X.env)).any (·.1))=false;rw [hplain] <;> rfl) (Calls.evalArgs_plain ?_)
 exact thn hA fun us s2 ⟨vs,H2,I2,r2,q2⟩=>hm pins s2 σ H2 x vs v us Q I2 r1 r2 q2
end
end L2
namespace L2
open PySem PySem.Spec PyProof.Rows
def MtM (X:Cx) (id:String) (r:V→List V→Hp→VK→Prop):Prop :=
 ∀ (pins:List (Addr × Obj)) (s:Shared) (σ:St) (H:Hp) (x:V) (xs:List V) (v:Value) (us:List Value) (Q:VK),Inv X pins σ H s→RelV x v→Vals xs us→r x xs H Q →
  wpAny (model X.prog X.w) X.A (call (.builtin id) (v :: us)) (EP X pins σ Q) X.xe s
theorem Vals.one:∀ {x:V} {us:List Value},Vals [x] us→∃ u,us=[u]∧RelV x u
 | _,_, .cons r .nil=>⟨_,rfl,r⟩
theorem Vals.two:∀ {x y:V} {us:List Value},Vals [x,y] us→∃ u v,us=[u,v]∧RelV x u∧RelV y v
 | _,_,_, .cons r (.cons q .nil)=>⟨_,_,rfl,r,q⟩
theorem Vals.zero:∀ {us:List Value},Vals [] us→us=[]
 | _, .nil=>rfl
theorem Vals.eraseIdx:∀ {xs:List V} {us:List Value} (i:Nat),Vals xs us→Vals (xs.eraseIdx i) (us.eraseIdx i)
 | _,_,_, .nil => .nil
 | _,_,0, .cons _ t=>t
 | _,_,i + 1, .cons r t => .cons r (Vals.eraseIdx i t)
theorem zmn {α:Type}:∀ (l:List α) (i:Nat),(l.eraseIdx i).length ≤ l.length
 | [],_=>Nat.le_refl _
 | _ :: _,0=>Nat.le_succ _
 | _ :: r,i + 1=>Nat.succ_le_succ (zmn r i)
section
variable {X:Cx} {pins:List (Addr × Obj)} {σ:St} {H:Hp} {s:Shared} {l b:Addr} {xs ys zs:List V}
theorem Inv.lset {its its':List Value} {n:Nat} {f:Array Value→Array Value} {t':Nat} (I:Inv X pins σ H s) (hH:H l=some (.lst xs))
  (e:s.heap.get? l=some { cls := .type "list",data := .seq its.toArray n }) (hf:f its.toArray=its'.toArray) (hv:Vals ys its') (hz:ys.length ≤ sizeLine) :
  Inv X pins σ (upd H l (.lst ys)) { s with heap:=s.heap.update l (Obj.mapSeq f),toks:=t' }:=by
 have q:=PySem.IsL.update e f
 rw [hf] at q
 refine I.write (x:=l) (e:=l) (by rw [hH];exact trivial) (.inl rfl) (fun b' u hb hu=>(Heap.get?_update_other s.heap (Obj.mapSeq f) (Ne.symm hb)).trans hu) ⟨_,q⟩ ?_
 exact ⟨hz,its',_,hv,q⟩
theorem Inv.lnew {its:List Value} {t':Nat} (I:Inv X pins σ H s) (hv:Vals ys its) (hz:ys.length ≤ sizeLine) :
  Inv X pins σ (upd H s.heap.objs.size (.lst ys)) { s with heap:=s.heap.push { cls := .type "list",data := .seq its.toArray },toks:=t' } :=
 I.laid (fun _ _ q=>Heap.get?_push_of_some _ q) (Nat.le_refl _) ⟨hz,its,0,hv,Heap.get?_push_size _ rfl⟩
theorem Inv.fresh (I:Inv X pins σ H s):H s.heap.objs.size=none:=I.hok.fresh (Nat.le_refl _)
theorem Inv.lstM (I:Inv X pins σ H s) (hH:H l=some (.lst xs)):xs.length ≤ sizeLine∧∃ (its:List Value) (n:Nat),Vals xs its∧xs.length=its.length∧s.heap.get? l=some { cls := .type "list",data := .seq its.toArray n }:=by
 obtain ⟨z,its,n,r,e⟩:=I.hok l _ hH
 exact ⟨z,its,n,r,r.length,e⟩
theorem zs2 {n:Nat} (h:n ≤ sizeLine):Builtin.List.listTooLong n=false:=by
 unfold Builtin.List.listTooLong
 exact decide_eq_false (by omega)
end
section
variable {X:Cx}
def zrR:V→List V→Hp→VK→Prop:=fun x vs H Q=>∃ l xs y,x = .ref l∧vs=[y]∧H l=some (.lst xs)∧xs.length < sizeLine∧Q .non (upd H l (.lst (xs ++ [y])))
theorem zeo:MtM X "list.append" zrR:=by
 intro pins s σ H x vs v us Q I rx rv h
 obtain ⟨l,xs,y,rfl,rfl,hH,hz,q⟩:=h
 cases rx
 obtain ⟨u,rfl,ru⟩:=rv.one
 obtain ⟨z,its,n,r,hl,e⟩:=I.lstM hH
 refine call_meets F.slot_list_append ⟨_,e,rfl⟩ F.entry_list_append (F.args_list_append_2 _ _) (PySem.list_append l its.toArray n u (by rw [List.size_toArray];omega)) ⟨e,?_⟩
 refine ⟨.non,_,I.lset (its':=its ++ [u]) hH e (by simp) (r.append (.cons ru .nil)) ?_,rfl,q⟩
 rw [List.length_append,List.length_singleton]
 omega
def zqJ:V→List V→Hp→VK→Prop:=fun x vs H Q=>∃ l b xs zs,x = .ref l∧vs=[.ref b]∧H l=some (.lst xs)∧H b=some (.lst zs)∧xs.length + zs.length ≤ sizeLine∧Q .non (upd H l (.lst (xs ++ zs)))
theorem zrg:MtM X "list.extend" zqJ:=by
 intro pins s σ H x vs v us Q I rx rv h
 obtain ⟨l,b,xs,zs,rfl,rfl,hH,hB,hz,q⟩:=h
 cases rx
 obtain ⟨u,rfl,ru⟩:=rv.one
 cases ru
 obtain ⟨z,its,n,r,hl,e⟩:=I.lstM hH
 obtain ⟨z2,its2,n2,r2,hl2,e2⟩:=I.lstM hB
 have hsz:its.toArray.size + its2.toArray.size ≤ sizeLine:=by rw [List.size_toArray,List.size_toArray];omega
 have hlong:¬ (!its.toArray.isEmpty && Builtin.List.listTooLong (its.toArray.size + its2.toArray.size))=true:=by
  rw [zs2 hsz,Bool.and_false]
  exact Bool.false_ne_true
 refine call_meets F.slot_list_extend ⟨_,e,rfl⟩ F.entry_list_extend (F.args_list_extend_2 _ _)
  (AutoSeq1.list_extend_list_list_0 l its.toArray n b its2.toArray n2 hlong (by rw [List.size_toArray];omega) (by omega)) ⟨e,e2,?_⟩
 refine ⟨.non,_,I.lset (its':=its ++ its2) hH e (by simp) (r.append r2) ?_,rfl,q⟩
 rw [List.length_append]
 omega
def zuZ:V→List V→Hp→VK→Prop:=fun x vs H Q=>∃ l xs i k y,x = .ref l∧vs=[.int i]∧H l=some (.lst xs)∧-(2 ^ 63) ≤ i∧i < 2 ^ 63∧seqIndex? i xs.length=some k∧xs[k]? = some y∧Q y (upd H l (.lst (xs.eraseIdx k)))
theorem zt7:MtM X "list.pop" zuZ:=by
 intro pins s σ H x vs v us Q I rx rv h
 obtain ⟨l,xs,i,k,y,rfl,rfl,hH,h1,h2,hk,hy,q⟩:=h
 cases rx
 obtain ⟨u,rfl,ru⟩:=rv.one
 obtain ⟨t,rfl⟩:=ru
 obtain ⟨z,its,n,r,hl,e⟩:=I.lstM hH
 obtain ⟨w,hw,rw'⟩:=r.get hy
 refine call_meets F.slot_list_pop ⟨_,e,rfl⟩ F.entry_list_pop (F.args_list_pop_2 _ _)
  (MeetsSeq.list_pop_at l its.toArray n i t k w (fitsIndex_both h1 h2) (by rw [List.size_toArray,← hl];exact hk) (by rw [← Array.getElem?_toList];exact hw) (by rw [List.size_toArray];omega)) ⟨e,?_⟩
 refine ⟨y,_,I.lset (its':=its.eraseIdx k) hH e ?_ (r.eraseIdx k) ?_,rw',q⟩
 ·show its.toArray.eraseIdxIfInBounds k=(its.eraseIdx k).toArray
  rw [List.eraseIdxIfInBounds_toArray]
 ·have:=zmn xs k
  omega
def rCat:R2:=fun x y H Q=>∃ l b xs zs,x = .ref l∧y = .ref b∧H l=some (.lst xs)∧H b=some (.lst zs)∧xs.length + zs.length ≤ sizeLine∧∀ p,H p=none→Q (.ref p) (upd H p (.lst (xs ++ zs)))
theorem zy4:OpR X (binaryOp .Add) rCat:=by
 intro pins s σ H x y v u Q I rx ry h
 obtain ⟨l,b,xs,zs,rfl,rfl,hH,hB,hz,q⟩:=h
 cases rx
 cases ry
 obtain ⟨z,its,n,r,hl,e⟩:=I.lstM hH
 obtain ⟨z2,its2,n2,r2,hl2,e2⟩:=I.lstM hB
 refine PySem.P.add_list e e2 ?_ (by rw [List.size_toArray,List.size_toArray];omega)
 have ea:its.toArray ++ its2.toArray=(its ++ its2).toArray:=by simp
 rw [ea]
 exact ⟨.ref _,_,I.lnew (t':=s.toks) (r.append r2) (by rw [List.length_append];omega),rfl,q _ I.fresh⟩
end
section
variable {prog:Program} {w:World} {A:Around} {E:Value→Shared→Prop} {s:Shared}
end
section
variable {X:Cx}
end
end L2
namespace L2
open PySem PySem.Spec PyProof.Rows
section
variable {κ:Type} [DecidableEq κ]
def valV (kvs:List (κ × V)) (k:κ):Option V:=(kvs.find? fun kv=>decide (kv.1=k)).map (·.2)
def putK (kvs:List (κ × V)) (k:κ) (v:V):List (κ × V) :=
 if (kvs.any fun kv=>decide (kv.1=k))=true then kvs.map (fun kv=>if kv.1=k then (kv.1,v) else kv) else kvs ++ [(k,v)]
def zyr (kvs:List (κ × V)) (k:κ):List (κ × V):=kvs.filter fun kv=>decide (kv.1 ≠ k)
theorem zlG {p:κ × V} {r:List (κ × V)} {k:κ} (e:p.1=k):valV (p :: r) k=some p.2:=by simp [valV,List.find?_cons,e]
theorem zlf {p:κ × V} {r:List (κ × V)} {k:κ} (e:¬ p.1=k):valV (p :: r) k=valV r k:=by simp [valV,List.find?_cons,e]
theorem zoz (k:κ):∀ kvs:List (κ × V),(kvs.any fun kv=>decide (kv.1=k))=(valV kvs k).isSome
 | []=>rfl
 | p :: r=>by
  rw [List.any_cons]
  by_cases e:p.1=k
  ·simp only [zlG e,decide_eq_true e,Bool.true_or,Option.isSome_some]
  ·rw [zlf e,decide_eq_false e,Bool.false_or];exact zoz k r
theorem zjN (kvs:List (κ × V)) (k:κ) (v:V):(putK kvs k v).length ≤ kvs.length + 1:=by
 unfold putK
 split
 ·rw [List.length_map];omega
 ·rw [List.length_append,List.length_cons,List.length_nil];omega
theorem RelO.zqG {o:Option V} {u:Option Value} (r:RelO o u):o.isSome=u.isSome:=by
 cases o with
 | none=>cases u with
  | none=>rfl
  | some _=>exact (show False from r).elim
 | some _=>cases u with
  | none=>exact (show False from r).elim
  | some _=>rfl
theorem RelO.getD {o:Option V} {u:Option Value} {d:V} {d':Value} (r:RelO o u) (rd:RelV d d'):RelV (o.getD d) (u.getD d'):=by
 cases o with
 | none=>cases u with
  | none=>exact rd
  | some _=>exact (show False from r).elim
 | some _=>cases u with
  | none=>exact (show False from r).elim
  | some _=>exact r
theorem KV.val {kvs:List (κ × V)} {vs:List (κ × Value)} (r:KV kvs vs) (k:κ):RelO (valV kvs k) (valueAt vs k):=by
 unfold KV at r
 induction r with
 | nil=>exact True.intro
 | @cons p q ps qs h t ih =>
  obtain ⟨h1,h2⟩:=h
  by_cases e:p.1=k
  ·have e':q.1=k:=h1.symm.trans e
   have b:valueAt (q :: qs) k=some q.2:=by simp [valueAt,List.find?_cons,e']
   rw [zlG e,b];exact h2
  ·have e':¬ q.1=k:=fun z=>e (h1.trans z)
   have b:valueAt (q :: qs) k=valueAt qs k:=by simp [valueAt,List.find?_cons,e']
   rw [zlf e,b];exact ih
theorem KV.any {kvs:List (κ × V)} {vs:List (κ × Value)} (r:KV kvs vs) (k:κ):(kvs.any fun kv=>decide (kv.1=k))=vs.any fun kv=>decide (kv.1=k):=by
 unfold KV at r
 induction r with
 | nil=>rfl
 | cons h t ih=>rw [List.any_cons,List.any_cons,ih,h.1]
theorem KV.repl {kvs:List (κ × V)} {vs:List (κ × Value)} (r:KV kvs vs) (k:κ) {y:V} {u:Value} (ry:RelV y u) :
  KV (kvs.map fun kv=>if kv.1=k then (kv.1,y) else kv) (vs.map fun kv=>if kv.1=k then (kv.1,u) else kv):=by
 unfold KV at r ⊢
 induction r with
 | nil=>exact .nil
 | @cons p q ps qs h t ih =>
  rw [List.map_cons,List.map_cons]
  refine .cons ?_ ih
  obtain ⟨h1,h2⟩:=h
  by_cases e:p.1=k
  ·rw [if_pos e,if_pos (h1.symm.trans e)];exact ⟨h1,ry⟩
  ·rw [if_neg e,if_neg (fun z=>e (h1.trans z))];exact ⟨h1,h2⟩
theorem KV.put {kvs:List (κ × V)} {vs:List (κ × Value)} (r:KV kvs vs) (k:κ) {y:V} {u:Value} (ry:RelV y u):KV (putK kvs k y) (stored vs k u):=by
 unfold putK stored
 rw [r.any k]
 by_cases e:(vs.any fun kv=>decide (kv.1=k))=true
 ·rw [if_pos e,if_pos e];exact r.repl k ry
 ·rw [if_neg e,if_neg e];exact Paired.snoc r ⟨rfl,ry⟩
theorem KV.drop {kvs:List (κ × V)} {vs:List (κ × Value)} (r:KV kvs vs) (k:κ):KV (zyr kvs k) (without vs k):=by
 unfold KV at r ⊢
 unfold zyr without
 induction r with
 | nil=>exact .nil
 | @cons p q ps qs h t ih =>
  obtain ⟨h1,h2⟩:=h
  rw [List.filter_cons,List.filter_cons]
  by_cases e:p.1=k
  ·have a:¬ decide (p.1 ≠ k)=true:=by simp [e]
   have b:¬ decide (q.1 ≠ k)=true:=by simp [h1.symm.trans e]
   rw [if_neg a,if_neg b];exact ih
  ·have e':¬ q.1=k:=fun z=>e (h1.trans z)
   have a:decide (p.1 ≠ k)=true:=by simp [e]
   have b:decide (q.1 ≠ k)=true:=by simp [e']
   rw [if_pos a,if_pos b];exact .cons ⟨h1,h2⟩ ih
theorem KV.keys {kvs:List (κ × V)} {vs:List (κ × Value)} (r:KV kvs vs):kvs.map (·.1)=vs.map (·.1):=by
 unfold KV at r
 induction r with
 | nil=>rfl
 | cons h t ih=>rw [List.map_cons,List.map_cons,ih,h.1]
theorem KV.length {kvs:List (κ × V)} {vs:List (κ × Value)} (r:KV kvs vs):kvs.length=vs.length:=Paired.length r
end
theorem zs7 {P:Program} {w:World} {k:Key} {u:Value} (r:RelV (kV k) u):(zbz P w).is k u=true:=by
 cases k with
 | inl i=>obtain ⟨t,e⟩:=(show ∃ t,u=Value.int i t from r);subst e;exact zny P w i t
 | inr x=>obtain ⟨t,e⟩:=(show ∃ t,u=Value.str x t from r);subst e;exact znf P w x t
theorem zmE {P:Program} {w:World}:∀ {ks:List Key} {us:List Value},Vals (ks.map kV) us→ItemsAre (zbz P w) ks us
 | [],_,r=>by rw [List.map_nil] at r;cases r;exact .nil
 | k :: ks,_,r=>by
  rw [List.map_cons] at r
  cases r with
  | cons h t=>exact .cons (zs7 h) (zmE t)
abbrev KT (H:Hp):List (List Key × V)→List (List Key × Addr × Value)→Prop:=Paired fun p q=>p.1=q.1∧H q.2.1=some (.tup (p.1.map kV))∧RelV p.2 q.2.2
theorem KT.val {H:Hp} {kvs:List (List Key × V)} {xs:List (List Key × Addr × Value)} (r:KT H kvs xs) (k:List Key):RelO (valV kvs k) ((atKey xs k).map (·.2)):=by
 induction r with
 | nil=>exact True.intro
 | @cons p q ps qs h t ih =>
  obtain ⟨h1,_,h2⟩:=h
  by_cases e:p.1=k
  ·have e':q.1=k:=h1.symm.trans e
   have b:atKey (q :: qs) k=some q.2:=by simp [atKey,List.find?_cons,e']
   rw [zlG e,b];exact h2
  ·have e':¬ q.1=k:=fun z=>e (h1.trans z)
   have b:atKey (q :: qs) k=atKey qs k:=by simp [atKey,List.find?_cons,e']
   rw [zlf e,b];exact ih
theorem KT.repl {H:Hp} {kvs:List (List Key × V)} {xs:List (List Key × Addr × Value)} (r:KT H kvs xs) (k:List Key) {y:V} {u:Value} (ry:RelV y u) :
  KT H (kvs.map fun kv=>if kv.1=k then (kv.1,y) else kv) (xs.map (putAt k u)):=by
 induction r with
 | nil=>exact .nil
 | @cons p q ps qs h t ih =>
  rw [List.map_cons,List.map_cons]
  refine .cons ?_ ih
  obtain ⟨h1,h2,h3⟩:=h
  unfold putAt
  by_cases e:p.1=k
  ·rw [if_pos e,if_pos (h1.symm.trans e)];exact ⟨h1,h2,ry⟩
  ·rw [if_neg e,if_neg (fun z=>e (h1.trans z))];exact ⟨h1,h2,h3⟩
theorem KT.put {H:Hp} {kvs:List (List Key × V)} {xs:List (List Key × Addr × Value)} (r:KT H kvs xs) (k:List Key) {b:Addr} {y:V} {u:Value} (hb:H b=some (.tup (k.map kV))) (ry:RelV y u) :
  KT H (putK kvs k y) (storedH xs k b u):=by
 have e:(kvs.any fun kv=>decide (kv.1=k))=(atKey xs k).isSome:=by
  rw [zoz,(r.val k).zqG,Option.isSome_map]
 unfold putK storedH
 rw [e]
 by_cases q:(atKey xs k).isSome=true
 ·rw [if_pos q,if_pos q];exact r.repl k ry
 ·rw [if_neg q,if_neg q];exact Paired.snoc r ⟨rfl,hb,ry⟩
theorem KT.keeps {H H':Hp} {kvs:List (List Key × V)} {xs:List (List Key × Addr × Value)} (r:KT H kvs xs) (ht:∀ b ys,H b=some (.tup ys)→H' b=some (.tup ys)):KT H' kvs xs :=
 Paired.mapP r fun _ _ z=>⟨z.1,ht _ _ z.2.1,z.2.2⟩
section
variable {P:Program} {w:World} {H:Hp} {h:Heap} {a:Addr}
theorem zxA {u:HO} (ok:HOk P w H h) (e:Rd H a u):zc6 P w H h a u:=e.ok ok
theorem zsP {kvs:List (Key × V)} (ok:HOk P w H h) (e:Rd H a (.dK kvs)):kvs.length ≤ sizeLine∧(a == sysModules)=false∧∃ vs,KV kvs vs∧h.DictOf (zbz P w) a vs :=
 show zc6 P w H h a (.dK kvs) from zxA ok e
theorem zwb {kvs:List (Key × V)} (ok:HOk P w H h) (e:H a=some (.dK kvs)):kvs.length ≤ sizeLine∧(a == sysModules)=false∧∃ vs,KV kvs vs∧h.DictOf (zbz P w) a vs:=zsP ok (.inl e)
theorem zoC {ks:List Key} (ok:HOk P w H h) (e:H a=some (.tup (ks.map kV))):(tupleKind (zbz P w)).is h ks a:=by
 obtain ⟨_,its,r,o,h1,h2,n,h3⟩:=(show zc6 P w H h a (.tup (ks.map kV)) from ok a _ e)
 exact ⟨o,its.toArray,n,h1,h2,h3,by simpa using zmE r⟩
theorem zsY {kvs:List (List Key × V)} (ok:HOk P w H h) (e:Rd H a (.dT kvs)):kvs.length ≤ sizeLine∧(a == sysModules)=false ∧
  ∃ xs,KT H kvs xs∧h.DictOfH (tupleKind (zbz P w)) a xs:=by
 obtain ⟨z,y,xs,r,o,es,ep,h1,h2,h3,h4,h5⟩:=(show zc6 P w H h a (.dT kvs) from zxA ok e)
 refine ⟨z,y,xs,r,o,es,ep,h1,h2,h3,h4,fun x hx=>?_,h5⟩
 have all:∀ {l:List (List Key × V)} {m:List (List Key × Addr × Value)},KT H l m→∀ x ∈ m,(tupleKind (zbz P w)).is h x.1 x.2.1:=by
  intro l m q
  induction q with
  | nil=>intro x hx;exact nomatch hx
  | @cons p q ps qs hq t ih =>
   intro x hx
   rcases List.mem_cons.mp hx with e | hx
   ·subst e
    exact zoC ok (by rw [← hq.1];exact hq.2.1)
   ·exact ih x hx
 exact all r x hx
theorem zzF {kvs:List (List Key × V)} (ok:HOk P w H h) (e:H a=some (.dT kvs)):kvs.length ≤ sizeLine∧(a == sysModules)=false ∧
  ∃ xs,KT H kvs xs∧h.DictOfH (tupleKind (zbz P w)) a xs:=zsY ok (.inl e)
end
def DGet (H:Hp) (a:Addr) (y:V) (r:Option V):Prop :=
 (∃ kvs k,Rd H a (.dK kvs)∧y=kV k∧r=valV kvs k)∨∃ kvs k b,Rd H a (.dT kvs)∧y = .ref b∧H b=some (.tup (k.map kV))∧r=valV kvs k
def DPut (H:Hp) (a:Addr) (y v:V) (H':Hp):Prop :=
 (∃ kvs k,H a=some (.dK kvs)∧y=kV k∧kvs.length < sizeLine∧H'=upd H a (.dK (putK kvs k v))) ∨
 ∃ kvs k b,H a=some (.dT kvs)∧y = .ref b∧H b=some (.tup (k.map kV))∧kvs.length < sizeLine∧H'=upd H a (.dT (putK kvs k v))
theorem DGet.k {H:Hp} {a:Addr} {kvs:List (Key × V)} {k:Key} (e:H a=some (.dK kvs)):DGet H a (kV k) (valV kvs k) := .inl ⟨kvs,k, .inl e,rfl,rfl⟩
theorem DGet.t {H:Hp} {a b:Addr} {kvs:List (List Key × V)} {k:List Key} (e:H a=some (.dT kvs)) (eb:H b=some (.tup (k.map kV))):DGet H a (.ref b) (valV kvs k) := .inr ⟨kvs,k,b, .inl e,rfl,eb,rfl⟩
theorem DPut.k {H:Hp} {a:Addr} {kvs:List (Key × V)} {k:Key} {v:V} (e:H a=some (.dK kvs)) (hl:kvs.length < sizeLine):DPut H a (kV k) v (upd H a (.dK (putK kvs k v))) := .inl ⟨kvs,k,e,rfl,hl,rfl⟩
theorem DPut.t {H:Hp} {a b:Addr} {kvs:List (List Key × V)} {k:List Key} {v:V} (e:H a=some (.dT kvs)) (eb:H b=some (.tup (k.map kV))) (hl:kvs.length < sizeLine) :
  DPut H a (.ref b) v (upd H a (.dT (putK kvs k v))) := .inr ⟨kvs,k,b,e,rfl,eb,hl,rfl⟩
section
variable {X:Cx} {pins:List (Addr × Obj)} {σ:St} {H:Hp} {s:Shared} {a:Addr} {y v:V} {u r:Value} {o:Option V} {A:Around} {E:Value→Shared→Prop}
theorem Inv.big (I:Inv X pins σ H s):sysModules < s.heap.objs.size:=by
 have h:mainGlobals < s.heap.objs.size:=(I.mod.glob.keeps I.bk).lt
 exact Nat.lt_trans (by decide) h
theorem zqI {Q:Value→Shared→Prop} (hu:A.units + 1 < cLine) (I:Inv X pins σ H s) (g:DGet H a y (some v)) (ry:RelV y u) (h:∀ w' s',Inv X pins σ H s'→RelV v w'→Q w' s') :
  wpAny (model X.prog X.w) A (getItem (.ref a) u) Q E s:=by
 rcases g with ⟨kvs,k,e,ey,l⟩ | ⟨kvs,k,b,e,ey,eb,l⟩
 ·subst ey
  obtain ⟨z,hd,vs,rel,dd⟩:=zsP I.hok e
  obtain ⟨w',hw,rw'⟩:=RelO.some_of (v:=v) (o:=valueAt vs k) (by rw [l];exact rel.val k)
  exact wpAny_getItem_of (zs7 ry) dd.mapOf hw (h w' _ (I.tok _) rw')
 ·subst ey
  cases (show u=Value.ref b from ry)
  obtain ⟨z,hd,xs,rel,dd⟩:=zsY I.hok e
  obtain ⟨w',hw,rw'⟩:=RelO.some_of (v:=v) (o:=(atKey xs k).map (·.2)) (by rw [l];exact rel.val k)
  obtain ⟨p,hp,hp2⟩:=Option.map_eq_some_iff.mp hw
  refine wpAny_getItem_heap (tupleKind_room_in1 hu) (zoC I.hok eb) dd hp ?_
  rw [hp2]
  exact h w' _ (I.tok _) rw'
theorem zrl {h':Heap} {t':Nat} {ob:HO} (I:Inv X pins σ H s) (mu:Mut (H a)) (hs:Heap.SameBut a s.heap h') (he:∃ q,h'.get? a=some q) (new:zc6 X.prog X.w (upd H a ob) h' a ob) :
  Inv X pins σ (upd H a ob) { s with heap:=h',toks:=t' } :=
 I.write (x:=a) (e:=a) mu (.inl rfl) (fun b q hb z=>(hs.2 b hb).trans z) he new
theorem zzb {P:Program} {w:World} {H':Hp} {h':Heap} {kvs:List (Key × V)} {vs:List (Key × Value)} (z:kvs.length ≤ sizeLine) (hd:(a == sysModules)=false) (rel:KV kvs vs) (dd:h'.DictOf (zbz P w) a vs) :
  zc6 P w H' h' a (.dK kvs):=⟨z,hd,vs,rel,dd⟩
theorem zrK {H':Hp} {Q:Unit→Shared→Prop} (hu:A.units + 1 < cLine) (I:Inv X pins σ H s) (g:DPut H a y v H') (ry:RelV y u) (rv:RelV v r) (h:∀ s',Inv X pins σ H' s'→Q () s') :
  wpAny (model X.prog X.w) A (setItem (.ref a) u r) Q E s:=by
 rcases g with ⟨kvs,k,e,ey,l,eH⟩ | ⟨kvs,k,b,e,ey,eb,l,eH⟩
 ·subst ey eH
  obtain ⟨z,hd,vs,rel,dd⟩:=zwb I.hok e
  have hz:vs.length ≤ sizeLine:=by rw [← rel.length];exact z
  have hl:(putK kvs k v).length ≤ sizeLine:=by have:=zjN kvs k v;omega
  refine wpAny_setItem_pairs (hsz:=hz) (zs7 ry) dd fun h' dd' hs=>h _ ?_
  have he:∃ q,h'.get? a=some q:=let ⟨q,_,_,hq,_⟩:=dd'; ⟨q,hq⟩
  exact zrl I (by rw [e];exact True.intro) hs he (zzb hl hd (rel.put k rv) dd')
 ·subst ey eH
  cases (show u=Value.ref b from ry)
  obtain ⟨z,hd,xs,rel,dd⟩:=zzF I.hok e
  have hz:xs.length ≤ sizeLine:=by rw [← Paired.length rel];exact z
  have hl:(putK kvs k v).length ≤ sizeLine:=by have:=zjN kvs k v;omega
  refine wpAny_setItem_heap (hsz:=hz) (tupleKind_room_in1 hu) (zoC I.hok eb) dd fun h' dd' hs=>h _ ?_
  obtain ⟨q,es,ep,hq,h2,h3,h4,_,h5⟩:=dd'
  refine zrl I (by rw [e];exact True.intro) hs ⟨q,hq⟩ ⟨hl,hd,_,(rel.put k eb rv).keeps fun c ys ec=>?_,q,es,ep,hq,h2,h3,h4,h5⟩
  rw [zan (znw ec e (fun z=>nomatch z))]
  exact ec
end
section
variable {X:Cx} {pins:List (Addr × Obj)} {σ:St} {H:Hp} {s:Shared} {a:Addr} {kvs:List (Key × V)} {k:Key} {u:Value} {A:Around} {E:Value→Shared→Prop}
end
def NoSl (i:Expr):Prop:=∀ ov iv,subscripted i false ov iv=operate [ov,iv] (getItem ov iv)
theorem zv9 {prog:Program} {w:World} {A:Around} {E:Value→Shared→Prop} {s:Shared} {env:Env} {value slice:Expr} {pos:Pos} {T id:String} {Q:Value→Shared→Prop}
  (hl:typeLookup (.type T) "__getitem__" = pure (some (.builtin id))) (hs:NoSl slice)
  (h:wpAny (model prog w) A (eval value env) (fun o s₁=>wpAny (model prog w) A (eval slice env) (fun i s₂=>s₂.TypeIs o T∧wpAny (model prog w) A (getItem o i) Q E s₂) E s₁) E s) :
  wpAny (model prog w) A (eval (.Subscript value slice pos) env) Q E s:=by
 refine Subscript_ (wpAny_mono h (fun o s₁ h₁=>wpAny_mono h₁ (fun i s₂ h₂=>?_) fun _ _ x=>x) fun _ _ x=>x)
 obtain ⟨hT,h₂⟩:=h₂
 unfold subscriptTail
 refine wpAny_bind ?_
 rw [getitemInPython_of_ne hT.not_modules]
 refine wpAny_bind (wpAny_specialOf hT hl ?_)
 have fin:wpAny (model prog w) A (subscripted slice false o i) (fun r s₃=>wpAny (model prog w) A (letTemporaryGo value o r >>= fun _=>pure r) Q E s₃) E s₂:=by
  rw [hs o i]
  exact wpAny_operating (wpAny_mono h₂ (fun r s₃ h₃=>wpAny_bind (wpAny_letTemporaryGo (wpAny_pure h₃))) fun _ _ x=>x)
 first
  | exact wpAny_pure (wpAny_bind fin)
  | exact wpAny_bind (wpAny_pure (wpAny_bind fin))
  | exact wpAny_bind fin
theorem znX {X:Cx} {pins:List (Addr × Obj)} {σ:St} {H:Hp} {s:Shared} {a:Addr} {y:V} {o:Option V} (I:Inv X pins σ H s) (g:DGet H a y o):s.TypeIs (.ref a) "dict":=by
 rcases g with ⟨kvs,k,e,_,_⟩ | ⟨kvs,k,b,e,_,_,_⟩
 ·obtain ⟨_,_,vs,_,dd⟩:=zsP I.hok e
  exact dd.typeIs
 ·obtain ⟨_,_,xs,_,dd⟩:=zsY I.hok e
  exact dd.typeIs
def zzK (td ty:TE):TE:=fun σ H Q=>td σ H fun x H1=>ty σ H1 fun y H2=>∃ a v,x = .ref a∧DGet H2 a y (some v)∧Q v H2
def zzS (td ty tv:TE):TS:=fun D σ H=>tv σ H fun v H1=>td σ H1 fun x H2=>ty σ H2 fun y H3=>∃ a H4,x = .ref a∧DPut H3 a y v H4∧D.nx σ H4
section
variable {X:Cx} {o i e value:Expr} {pos pos' tpos:Pos} {td ty tv:TE}
theorem zvI (hu:X.A.units + 1 < cLine) (ho:PE X o td) (hi:PE X i ty) (hs:NoSl i):PE X (.Subscript o i pos) (zzK td ty):=by
 intro pins s σ H Q I h
 refine zv9 PySem.F.slot_dict_getitem.lookup hs (thn (ho pins s σ H _ I h) fun u s1 ⟨x,H1,I1,rx,q1⟩=>thn (hi pins s1 σ H1 _ I1 q1) fun iv s2 ⟨y,H2,I2,ry,a,v,ex,g,q2⟩=>?_)
 subst ex
 obtain rfl:u=Value.ref a:=rx
 exact ⟨znX I2 g,zqI hu I2 g ry fun w' s3 I3 rw'=>⟨v,H2,I3,rw',q2⟩⟩
theorem zvt (hu:X.A.units + 1 < cLine) (ho:PE X o td) (hi:PE X i ty) (hv:PE X value tv) (hs:swapsWith value (some (.Subscript o i pos')) pos.line X.env=pure false) :
  PS X (.Assign [.Subscript o i pos'] value pos) (zzS td ty tv):=by
 intro pins s σ H D I h
 refine wpAny_Assign_Subscript (thn (hv pins s σ H _ I h) fun r s1 ⟨v,H1,I1,rv,q1⟩=>thn (ho pins s1 σ H1 _ I1 q1) fun u s2 ⟨x,H2,I2,rx,q2⟩=>thn (hi pins s2 σ H2 _ I2 q2) fun iv s3 ⟨y,H3,I3,ry,a,H4,ex,g,q3⟩=>?_) hs
 subst ex
 obtain rfl:u=Value.ref a:=rx
 exact zrK hu I3 g ry rv fun s4 I4=>⟨σ,H4,I4,q3⟩
end
theorem zuP {P:Program} {w:World} {H:Hp} (h:Heap) (hb:sysModules < h.objs.size):zc6 P w H (h.push { cls := .type "dict",data := .dict #[] }) h.objs.size (.dK []) :=
 ⟨Nat.zero_le _,beq_eq_false_iff_ne.mpr (Ne.symm (Nat.ne_of_lt hb)),[], .nil,Heap.DictOf.new h⟩
def zyC:TE:=fun _ H Q=>∀ p,H p=none→Q (.ref p) (upd H p (.dK []))
section
variable {X:Cx} {pos:Pos}
theorem ztB:PE X (.Dict [] [] pos) zyC:=fun pins s σ H Q I h =>
 wpAny_Dict_empty ⟨.ref s.heap.objs.size,_,I.laid (a:=s.heap.objs.size) (o := .dK []) (t':=s.toks) (fun _ _ q=>Heap.get?_push_of_some _ q) (Nat.le_refl _) (zuP s.heap I.big),rfl,h _ (I.hok.fresh (Nat.le_refl _))⟩
end
structure M1 (X:Cx) (o:Expr) (m:Str) (apos:Pos) (e:Expr) (cpos:Pos):Prop where
 base:attributeBase o m X.env (eval o X.env)=eval o X.env
 few:((backTo cpos (starEach [e] X.env)).all (fun x=>!x.1) && (backToKw cpos (keywordEach [] X.env)).all (fun x=>x.1.isSome)
  && decide (([e] : List Expr).length + ([] : List Keyword).length + (if ([] : List Keyword).isEmpty then 0 else 1) < 30))=true
 line:(apos.endLine == cpos.line)=true
 trees:backTo cpos (starEach [e] X.env)=[(false,eval e X.env)]
structure M2 (X:Cx) (o:Expr) (m:Str) (apos:Pos) (e f:Expr) (cpos:Pos):Prop where
 base:attributeBase o m X.env (eval o X.env)=eval o X.env
 few:((backTo cpos (starEach [e,f] X.env)).all (fun x=>!x.1) && (backToKw cpos (keywordEach [] X.env)).all (fun x=>x.1.isSome)
  && decide (([e,f] : List Expr).length + ([] : List Keyword).length + (if ([] : List Keyword).isEmpty then 0 else 1) < 30))=true
 line:(apos.endLine == cpos.line)=true
 trees:backTo cpos (starEach [e,f] X.env)=[(false,eval e X.env),(false,eval f X.env)]
def IsD (H:Hp) (a:Addr):Prop:=(∃ kvs,Rd H a (.dK kvs))∨∃ kvs,Rd H a (.dT kvs)
theorem zvd {X:Cx} {pins:List (Addr × Obj)} {σ:St} {H:Hp} {s:Shared} {a:Addr} (I:Inv X pins σ H s) (d:IsD H a) :
  s.TypeIs (.ref a) "dict"∧(∀ b,Value.ref a = .ref b→∃ ob,s.heap.get? b=some ob∧ob.dict=none)∧(a == sysModules)=false:=by
 rcases d with ⟨kvs,e⟩ | ⟨kvs,e⟩
 ·obtain ⟨_,hd,vs,_,dd⟩:=zsP I.hok e
  refine ⟨dd.typeIs,fun b q=>?_,hd⟩
  cases q
  obtain ⟨ob,_,_,h1,h2,_⟩:=dd
  exact ⟨ob,h1,h2.2.1⟩
 ·obtain ⟨_,hd,xs,_,dd⟩:=zsY I.hok e
  refine ⟨dd.typeIs,fun b q=>?_,hd⟩
  cases q
  obtain ⟨ob,_,_,h1,h2,_⟩:=dd
  exact ⟨ob,h1,h2.2.1⟩
section
variable {X:Cx} {pins:List (Addr × Obj)} {σ:St} {H:Hp} {s:Shared} {a:Addr} {y d:V} {u r:Value} {o:Option V} {A:Around} {E:Value→Shared→Prop}
theorem zy6 {Q:Value→Shared→Prop} (hu:A.units + 1 < cLine) (I:Inv X pins σ H s) (g:DGet H a y o) (ry:RelV y u) (rd:RelV d r) (h:∀ w' s',Inv X pins σ H s'→RelV (o.getD d) w'→Q w' s') :
  wpAny (model X.prog X.w) A (call (.builtin "dict.get") [.ref a,u,r]) Q E s:=by
 rcases g with ⟨kvs,k,e,ey,l⟩ | ⟨kvs,k,b,e,ey,eb,l⟩
 ·subst ey
  obtain ⟨z,hd,vs,rel,dd⟩:=zsP I.hok e
  refine call_meetsIn PySem.F.slot_dict_get dd.typeIs PySem.F.entry_dict_get (PySem.F.args_dict_get_3 _ _ _) (meets_dict_get_default (zbz X.prog X.w) a (zs7 ry) hd r) ⟨_,dd.mapOf,h _ _ (I.tok _) ?_⟩
  rw [l]
  exact (rel.val k).getD rd
 ·subst ey
  cases (show u=Value.ref b from ry)
  obtain ⟨z,hd,xs,rel,dd⟩:=zsY I.hok e
  refine call_meetsIn PySem.F.slot_dict_get dd.typeIs PySem.F.entry_dict_get (PySem.F.args_dict_get_3 _ _ _) (meetsH_dict_get_default (tupleKind (zbz X.prog X.w)) a b hd r) ⟨tupleKind_room_in1 hu,k,xs,zoC I.hok eb,dd,h _ _ (I.tok _) ?_⟩
  rw [l]
  exact (rel.val k).getD rd
end
def zyP (td ty tx:TE):TE:=fun σ H Q=>td σ H fun x H1=>∃ a,x = .ref a∧IsD H1 a∧ty σ H1 fun y H2=>tx σ H2 fun z H3=>∃ o,DGet H3 a y o∧Q (o.getD z) H3
section
variable {X:Cx} {o e f:Expr} {apos cpos:Pos} {td ty tx:TE}
theorem ztQ (hu:X.A.units + 1 < cLine) (ho:PE X o td) (he:PE X e ty) (hf:PE X f tx) (m:M2 X o "get" apos e f cpos):PE X (.Call (.Attribute o "get" apos) [e,f] [] cpos) (zyP td ty tx):=by
 intro pins s σ H Q I h
 refine wpAny_Call_method m.base m.few m.line PySem.F.plainAttrs_dict PySem.F.slot_dict_get PySem.F.type_dict_get (thn (ho pins s σ H _ I h) fun u s1 ⟨x,H1,I1,rx,a,ex,d,q1⟩=>?_)
 subst ex
 obtain rfl:u=Value.ref a:=rx
 obtain ⟨t1,t2,_⟩:=zvd I1 d
 refine ⟨t1,t2,?_⟩
 rw [m.trees]
 refine Calls.callWith_builtin rfl (Calls.evalArgs_plain (Calls.spliced_cons (thn (he pins s1 σ H1 _ I1 q1) fun iv s2 ⟨y,H2,I2,ry,q2⟩ =>
  Calls.spliced_cons (thn (hf pins s2 σ H2 _ I2 q2) fun fv s3 ⟨z,H3,I3,rz,ov,g,q3⟩=>Calls.spliced_nil ?_))))
 exact zy6 hu I3 g ry rz fun w' s4 I4 rw'=>⟨_,H3,I4,rw',q3⟩
end
section
variable {X:Cx} {pins:List (Addr × Obj)} {σ:St} {H:Hp} {s:Shared} {a:Addr} {kvs:List (Key × V)} {A:Around} {E:Value→Shared→Prop}
end
section
variable {X:Cx} {pins:List (Addr × Obj)} {σ:St} {H:Hp} {s:Shared} {a:Addr} {y:V} {u:Value} {A:Around} {E:Value→Shared→Prop}
end
end L2
namespace Att
open PySem PySem.W PySem.Calls PyProof.Rows
theorem zja {P:Params} {h:Heap}:∀ (ns:List Int) (vs:List Value),WellAll P h vs (ns.map WData.int)→IntsAre vs ns:=by
 intro ns
 induction ns with
 | nil =>
  intro vs w
  rw [List.map_nil] at w
  cases w
  exact .nil
 | cons n ns ih =>
  intro vs w
  rw [List.map_cons] at w
  cases w with
  | cons a b =>
   cases a
   exact .cons _ _ (ih _ b)
theorem zqv {l:OpenLaw} {n:Nat} (hn:l.most=some n) {P:Params} {h:Heap} {args:List WData} {vals:List Value}
  (hpre:l.row.toRowW.claim.pre args=true) (hwl:WellAll P h vals args) :
  ∃ a vs ns,vals=[Value.ref a]∧args=[WData.list (ns.map WData.int)]∧h.get? a=some { cls := .type "list",data := .seq vs.toArray }∧IntsAre vs ns∧ns.length ≤ n:=by
 have hsh:WShape.hasAll [] args [.list .int]=true:=(pre_splitW hpre).1
 have hc:l.pre.holds [] { args:=args }=true:=(pre_splitW hpre).2
 obtain ⟨d,r,rfl,h1,h2⟩:=hasAllW_cons hsh
 obtain rfl:=hasAllW_nil h2
 obtain ⟨xs,rfl,h3⟩:=hasW_list h1
 obtain ⟨ns,rfl⟩:=items_int h3
 have hlen:ns.length ≤ n:=by
  unfold OpenLaw.pre at hc
  have h4:(WTm.not (.lt (.lit (.int (n:Int))) (.len (.arg 0)))).holds [] { args:=[.list (ns.map .int)] }=true:=by
   have h4:=(holds_andW hc).1
   rw [hn] at h4
   exact h4
  have h5:=condW_of h4 (w_not (w_lt w_lit (w_len_list (w_arg rfl))))
  rw [List.length_map] at h5
  refine Nat.le_of_not_lt fun q=>?_
  have q':(n:Int) < ((ns.length:Nat):Int):=by omega
  first
   | (rw [decide_eq_true q'] at h5;exact absurd h5 (by decide))
   | (simp at h5;omega)
 cases hwl with
 | cons w1 w2 =>
  cases w2
  cases w1 with
  | list ho hall=>exact ⟨_,_,ns,rfl,rfl,ho,zja ns _ hall,hlen⟩
theorem zry (l:OpenLaw) (args:List WData):l.row.toRowW.claim.post args (.bool true) args=true :=
 postW_of (r:=l.row.toRowW) (X:=(true == true))
  (show WShape.has [] (.bool true) .bool=true by first | rfl | decide | simp [WShape.has,WShape.arms,WShape.armsAll])
  (show (WTm.eq .res (.lit (.bool true))).value [] { args:=args,res:=some (.bool true),after:=args }=some (.bool (true == true)) from w_eq_bool (w_res rfl) w_lit) rfl
theorem znu {l:OpenLaw} {n:Nat} {q:Program} {loose:List Str} {XP:(Str→Option Value)→Heap→Prop} {YP:World→Heap→Prop} {d:DefRec}
  (hn:l.most=some n) (hdf:d.params.defaults=[])
  (call:∀ (w:World) (s₀ s₁:Shared) (mg mb:Str→Option Value) (fa:Addr) (o:Obj) (pm cd doc:Value) (a:Addr) (vs:List Value) (ns:List Int),
   Ground q loose [] XP w s₀ mg mb s₁.heap→YP w s₁.heap →
   s₁.heap.get? fa=some o→o.data = .func (docDef d.name d.params d.body d.scope pm cd doc)→s₁.heap.CodeRec cd d.name→mg d.name=some (.ref fa) →
   s₁.heap.get? a=some { cls := .type "list",data := .seq vs.toArray }→IntsAre vs ns→ns.length ≤ n→s₁.gens = #[] →
   codeAny (model l.prog w) callerA (.call (.ref fa) ⟨[.ref a],[]⟩) (fun r s'=>r = .ok (.ret (.bool true))∧OldK s₁.heap s'.heap∧s'.os=s₁.os∧AllBare s'.gens) s₁) :
  WalkO q loose XP YP l.row.toRowW d [] (fun f vs=>PySem.call f vs):=by
 intro w s₀ s₁ mg mb G Y fa o pm cd doc dV kV ho hd hcd hD hmg hg args vals as hpre hlay hrd hwl hlo
 obtain rfl:dV = .none:=Dflts.none hD hdf
 obtain rfl:kV = .none:=Dflts.noKw hD
 obtain ⟨a,vs,ns,rfl,rfl,hobj,hints,hlen⟩:=zqv hn hpre hwl
 refine enter_call (codeAny_mono (call w s₀ s₁ mg mb fa o pm cd doc a vs ns G Y ho (fd_plain hd) hcd hmg hobj hints hlen hg) fun r s' hq=>?_)
 obtain ⟨rfl,h2,h3,h4⟩:=hq
 exact ⟨.inl ⟨.bool true, .bool true,[],rfl,fun _=>rfl, .bool true,zry l _,fun _=>⟨List.Pairwise.nil,fun _ hm=>(nomatch hm)⟩⟩,h2,h3,h4⟩
section
variable {prog:Program} {w:World} {A:Around} {E:Value→Shared→Prop} {s:Shared} {K:Frag}
def ledger (h:Heap) (L d:Addr):List (Addr × Obj):=(List.range h.objs.size).filterMap fun a=>if a=L∨a=d then none else (h.get? a).map fun o=>(a,o)
end
end Att
namespace L2
open PySem PySem.Spec PyProof.Rows
theorem zjC:∀ {vs:List Value} {ns:List Int},IntsAre vs ns→Vals (ns.map V.int) vs
 | _,_, .nil => .nil
 | _,_, .cons n t h => .cons ⟨t,rfl⟩ (zjC h)
def Only (H:Hp):Prop:=∀ b,H b=none∨∃ o xs,H b=some (.frz o (.lst xs))
theorem zuf {P:Program} {w:World} {K:PySem.W.Frag} {mg mb:Str→Option Value} {CX:CXT} {k:Nat} {fa a:Addr} {fd:FuncData} {x:Str} {sp:Sp} {s₁:Shared} {vs:List Value} {ns:List Int}
  (KX:K.In s₁.heap) (hns:s₁.heap.Ns mainGlobals mg) (hb:s₁.heap.Ns builtinsNs mb) (hbb:∀ x:Str,x ≠ "__name__"→mb x=bootBuiltins x) (hlim:s₁.heap.NoLimit) (hg:s₁.gens = #[])
  (ha:s₁.heap.get? a=some { cls := .type "list",data := .seq vs.toArray }) (hi:IntsAre vs ns) (hl:ns.length ≤ sizeLine) (hr:Room k callerA)
  (F:∀ base:Heap,K.In base→base.Ns mainGlobals mg→FnOk P w K mg base CX k fa fd [x] sp) (hbind:∀ (s:Shared) (u:Value),BindsTo s fd ⟨[u],[]⟩ [(x,u)])
  (hsp:∀ H:Hp,Only H→SqL K H a (ns.map V.int)→sp [.ref a] H (fun v _=>v = .bl true) fun _ _ _=>False)
  (hCX:∀ H e s',CX [] H s₁ (fun _ _ _=>False) e s'→False) :
  codeAny (model P w) callerA (.call (.ref fa) ⟨[.ref a],[]⟩) (fun r s'=>r = .ok (.ret (.bool true))∧OldK s₁.heap s'.heap∧s'.os=s₁.os∧AllBare s'.gens) s₁:=by
 have rv:=zjC hi
 have lenV:=hi.length
 have core:∀ H:Hp,Only H→SqL K H a (ns.map V.int)→HOk P w H s₁.heap→(∀ b,H b ≠ none→b=a)→(H a ≠ none→K.lookup a=none) →
   codeAny (model P w) callerA (.call (.ref fa) ⟨[.ref a],[]⟩) (fun r s'=>r = .ok (.ret (.bool true))∧OldK s₁.heap s'.heap∧s'.os=s₁.os∧AllBare s'.gens) s₁:=by
  intro H hO hS hok hA hK
  have base_of:∀ {b:Addr} {o:Obj},s₁.heap.get? b=some o→H b=none→(hidT s₁.heap H).get? b=some o:=fun e n=>ztI e n
  have noA:∀ {b:Addr} {o:Obj} {es:Array DictEntry} {ep:Nat},s₁.heap.get? b=some o→o.data = .dict es ep→H b=none:=fun {b o es ep} e d=>by
   cases q:H b with
   | none=>rfl
   | some u =>
    have e':b=a:=hA b (by rw [q];simp)
    subst e'
    rw [ha] at e;cases e
    have d':Data.seq vs.toArray _=Data.dict es ep:=d
    cases d'
  have nsK:∀ {b:Addr} {m:Str→Option Value},s₁.heap.Ns b m→(hidT s₁.heap H).Ns b m:=fun {b m} ⟨o,es,ep,e,d,r⟩=>⟨o,es,ep,base_of e (noA e d),d,r⟩
  have hKb:K.In (hidT s₁.heap H):=fun b o e=>base_of (KX b o e) (by
   cases q:H b with
   | none=>rfl
   | some u =>
    have e':b=a:=hA b (by rw [q];simp)
    subst e'
    rw [hK (by rw [q];simp)] at e;cases e)
  have hM:Mod K mg (hidT s₁.heap H):=⟨hKb,nsK hns,⟨mb,nsK hb,hbb⟩,let ⟨mc,h1,h2⟩:=hlim; ⟨mc,nsK h1,h2⟩⟩
  have e0:Env0 P w K mg (hidT s₁.heap H) callerA [] s₁ H:=⟨rfl,hM,fun b o e=>zvx e,Nat.le_of_eq (zr1 _ _),trivial,fun b hb=>absurd (show b ∈ ([] : List Addr) from hb) (by simp),hok, .of_eq hg⟩
  refine codeAny_mono ((F _ hKb (nsK hns)).run callerA [] s₁ H ⟨[.ref a],[]⟩ [.ref a] [.ref a] _ _ hr e0 (hbind s₁ (.ref a)) (.cons rfl .nil) (hsp H hO hS)) fun r s' h=>?_
  cases r with
  | error e=>exact (hCX H e s' h).elim
  | ok fl =>
   cases fl with
   | next=>exact False.elim h
   | brk=>exact False.elim h
   | cont=>exact False.elim h
   | ret u =>
    obtain ⟨v,H',os,bare,un,hok',r',q⟩:=h
    have q':v = .bl true:=q
    subst q'
    obtain rfl:u=Value.bool true:=r'
    refine ⟨rfl,OldK.of_keep fun b o e=>?_,os,bare⟩
    cases q:H b with
    | none=>exact un.keep b o e q (by intro z;exact absurd (show b ∈ ([] : List Addr) from z) (by simp)) (by simp)
    | some u =>
     rcases hO b with z | ⟨ob,xs,z⟩
     ·rw [q] at z;cases z
     ·have z2:=un.frzs b ob _ z
      obtain ⟨e1,_⟩:=hok b _ z
      obtain ⟨e2,_⟩:=hok' b _ z2
      rw [e] at e1;cases e1
      exact e2
 cases hk:K.lookup a with
 | some o =>
  have e:=KX a o hk
  rw [ha] at e
  cases e
  refine core (fun _=>none) (fun _ => .inl rfl) (.inr ⟨_,vs.toArray,_,hk,rfl,rfl,rfl,by rw [List.size_toArray,lenV];exact hl,by simpa using rv⟩) (fun b u z=>by have z':(none:Option HO)=some u:=z;cases z') (fun b z=>absurd rfl z) fun z=>absurd rfl z
 | none =>
  refine core (fun b=>if b=a then some (.frz { cls := .type "list",data := .seq vs.toArray } (.lst (ns.map V.int))) else none) (fun b=>?_) (.inl (.inr ⟨{ cls := .type "list",data := .seq vs.toArray },if_pos rfl⟩)) (fun b u z=>?_) (fun b z=>?_) fun _=>hk
  ·by_cases hb:b=a
   ·exact .inr ⟨_,_,if_pos hb⟩
   ·exact .inl (if_neg hb)
  ·by_cases hb:b=a
   ·have z':=(if_pos hb).symm.trans z
    cases z'
    subst hb
    exact ⟨ha,by rw [List.length_map];exact hl,vs,_,rv,ha⟩
   ·have z':=(if_neg hb).symm.trans z
    cases z'
  ·by_cases hb:b=a
   ·exact hb
   ·exact absurd (if_neg hb) z
end L2
namespace L2
open PySem PySem.Spec PyProof.Rows
theorem zvO {l:PySem.W.OpenLaw} {n k:Nat} {q:Program} {loose:List Str} {XP:(Str→Option Value)→Heap→Prop} {YP:World→Heap→Prop} {d:DefRec} {K:Params→PySem.W.Frag} {CX:World→CXT} {sp:World→Sp} {x:Str}
  (hn:l.most=some n) (hn2:n ≤ sizeLine) (hdf:d.params.defaults=[]) (hr:Room k callerA)
  (hY:∀ (w:World) (h:Heap),YP w h→(K w.params).In h)
  (F:∀ (w:World) (mg:Str→Option Value) (fa:Addr) (h:Heap),(K w.params).In h→h.Ns mainGlobals mg→mg d.name=some (.ref fa) →
   ∃ fd:FuncData,(∀ (s:Shared) (u:Value),BindsTo s fd ⟨[u],[]⟩ [(x,u)]) ∧
    ∀ base:Heap,(K w.params).In base→base.Ns mainGlobals mg→FnOk l.prog w (K w.params) mg base (CX w) k fa fd [x] (sp w))
  (hsp:∀ (w:World) (H:Hp) (a:Addr) (ns:List Int),ns.length ≤ n→Only H→SqL (K w.params) H a (ns.map V.int)→sp w [.ref a] H (fun v _=>v = .bl true) fun _ _ _=>False)
  (hCX:∀ (w:World) (H:Hp) (s:Shared) (e:Value) (s':Shared),CX w [] H s (fun _ _ _=>False) e s'→False) :
  PySem.W.WalkO q loose XP YP l.row.toRowW d [] (fun f vs=>PySem.call f vs):=by
 refine Att.znu hn hdf fun w s₀ s₁ mg mb fa o pm cd doc a vs ns G Y ho hd hcd hmg hobj hints hlen hg=>?_
 have KX:=hY w _ Y
 obtain ⟨fd,hb,hF⟩:=F w mg fa _ KX G.T.g hmg
 exact zuf KX G.T.g G.T.b G.T.builtins G.T.nolimit hg hobj hints (Nat.le_trans hlen hn2) hr hF hb (fun H hO hS=>hsp w H a ns hlen hO hS) fun H e s'=>hCX w H s₁ e s'
end L2
namespace L2
open PySem PySem.Spec PyProof.Rows
def inClass (s:Stmt) (j:Nat):Stmt:=match s with
 | .ClassDef _ _ _ body _ _ _ _ _ _ _=>body.getD j (.Pass ⟨0,0,0,0⟩)
 | _ => .Pass ⟨0,0,0,0⟩
def zar (s:Stmt):Arguments:=match s with
 | .FunctionDef _ a _ _ _ _ _ _ _ _=>a
 | _=>{ posonlyargs:=[],args:=[],vararg:=none,kwonlyargs:=[],kw_defaults:=[],kwarg:=none,defaults:=[] }
def zaj (s:Stmt):List Stmt:=match s with
 | .FunctionDef _ _ b _ _ _ _ _ _ _=>b
 | _=>[]
def zac (s:Stmt):Scope:=match s with
 | .FunctionDef _ _ _ _ _ _ sc _ _ _=>sc
 | _=>{ kind := .function,names:=[],isGenerator:=false,isCoroutine:=false }
abbrev CX0:CXT:=fun _ _ _ _ _ _=>False
abbrev E0:XK:=fun _ _ _=>False
theorem zyA {X:Cx}:Passes CX0 X E0:=fun _ _ _ _ _ _ _ h=>h.elim
structure Fun (K:PySem.W.Frag) (x qual:Str) (st:Stmt) (f:Addr) (fd:FuncData):Prop where
 ex:∃ (oc:Value) (od:Option Addr) (kV doc pm:Value) (an:Option Addr) (cdv ct:Value) (osl:Array (Option Value)),
  fd=PySem.W.fnOf x qual (zar st) (zaj st) (zac st) .none kV doc pm an cdv ct∧K.lookup f=some ⟨oc,od, .func fd,osl⟩∧PySem.W.codeIn K cdv qual=true
 kp:PySem.W.keepIn K (.ref f)=true
section
variable {P:Program} {w:World} {K:PySem.W.Frag} {mg:Str→Option Value} {base:Heap}
theorem Fun.ok {x qual:Str} {st:Stmt} {f:Addr} {fd:FuncData} {N ps:List Str} {k:Nat} {sp:Sp} (F:Fun K x qual st f fd) (S:zaq N ps (zac st)) (len:∀ vs H Q E,sp vs H Q E→vs.length=ps.length)
  (hbody:∀ (cdv:Value) (A:Around) (outer:List Env) (s:Shared) (H:Hp) (vs:List V) (Q:VK) (E:XK),Room k (A.deeper (envOfC qual (zac st) s.heap.objs.size f cdv))→sp vs H Q E →
   ∃ t,PSs (cxOf CX0 P w K mg base N qual (zac st) f cdv A outer s H E).nox (zaj st) t∧t { nx:=fun _ H'=>Q .non H',rt:=Q } (start N vs) H):FnOk P w K mg base CX0 (k + 1) f fd ps sp:=by
 obtain ⟨oc,od,kV,doc,pm,an,cdv,ct,osl,rfl,lk,hcd⟩:=F.ex
 refine zrb lk hcd S len fun A outer s H vs Q E hr hsp=>?_
 obtain ⟨t,h,q⟩:=hbody cdv A outer s H vs Q E hr hsp
 exact ⟨t,h.nox,q⟩
theorem Fun.binds {x qual:Str} {st:Stmt} {f:Addr} {fd:FuncData} {ps:List Str} (F:Fun K x qual st f fd)
  (h:∀ (kV doc pm:Value) (an:Option Addr) (cdv ct:Value) (us:List Value),us.length=ps.length→bindArgs (PySem.W.fnOf x qual (zar st) (zaj st) (zac st) .none kV doc pm an cdv ct) ⟨us,[]⟩ = pure (ps.zip us)):Binds K fd ps []:=by
 obtain ⟨oc,od,kV,doc,pm,an,cdv,ct,osl,rfl,lk,hcd⟩:=F.ex
 exact .all (h kV doc pm an cdv ct)
theorem zi7 {x qual:Str} {st:Stmt} {f:Addr} {oc:Value} {od an:Option Addr} {osl:Array (Option Value)} {kV doc pm cdv ct:Value} (l:K.lookup f=some ⟨oc,od, .func (PySem.W.fnOf x qual (zar st) (zaj st) (zac st) .none kV doc pm an cdv ct),osl⟩)
  (c:PySem.W.codeIn K cdv qual=true) (k:PySem.W.keepIn K (.ref f)=true):Fun K x qual st f (PySem.W.fnOf x qual (zar st) (zaj st) (zac st) .none kV doc pm an cdv ct):=⟨⟨oc,od,kV,doc,pm,an,cdv,ct,osl,rfl,l,c⟩,k⟩
end
section
variable {X:Cx}
end
def Same (H H':Hp):Prop:=∀ b o,H b=some o→H' b=some o
theorem Same.refl (H:Hp):Same H H:=fun _ _ h=>h
theorem Same.trans {H H1 H2:Hp} (a:Same H H1) (b:Same H1 H2):Same H H2:=fun c o h=>b c o (a c o h)
theorem Same.free {H H':Hp} (e:Same H H') {l:Addr} (h:H' l=Option.none):H l=Option.none:=by
 cases q:H l with
 | none=>rfl
 | some o =>
  rw [e l o q] at h
  cases h
theorem Same.seq {K:PySem.W.Frag} {H H':Hp} {a:Addr} {xs:List V} (e:Same H H') (h:SqL K H a xs):SqL K H' a xs:=by
 rcases h with (h | ⟨o,h⟩) | h
 ·exact .inl (.inl (e _ _ h))
 ·exact .inl (.inr ⟨o,e _ _ h⟩)
 ·exact .inr h
section
variable {κ:Type} [DecidableEq κ]
end
end L2
namespace L2
open PySem
theorem znO (env:Env):∀ (names:List (Str × NameKind)) (cs:List (Str × Addr)),(∀ y ∈ names,y.2 = .free→∃ c,env.cells.lookup y.1=some c) →
  ∃ cl,(forIn names cs (fun (x:Str × NameKind) (cs:List (Str × Addr))=>(match x with | (name,kind)=>if (kind == NameKind.free)=true then (do let c ← cellOf env name;pure (ForInStep.yield ((name,c) :: cs))) else pure (ForInStep.yield cs))):Sem (List (Str × Addr)))=pure cl ∧
   (∀ x c,cl.lookup x=some c→cs.lookup x=some c∨env.cells.lookup x=some c)∧(∀ y ∈ names,y.2 = .free→∃ c,cl.lookup y.1=some c)∧(∀ x c,cs.lookup x=some c→∃ c',cl.lookup x=some c')
 | [],cs,_=>⟨cs,rfl,fun _ _ h => .inl h,fun _ h=>(nomatch h),fun _ c h=>⟨c,h⟩⟩
 | (n,k) :: r,cs,h=>by
  by_cases hk:k = .free
  ·subst hk
   obtain ⟨c,hc⟩:=h (n, .free) (List.mem_cons_self ..) rfl
   obtain ⟨cl,e,h1,h2,h3⟩:=znO env r ((n,c) :: cs) fun y hy=>h y (List.mem_cons_of_mem _ hy)
   refine ⟨cl,?_,fun x d hd=>?_,fun y hy hf=>?_,fun x d hd=>?_⟩
   ·rw [List.forIn_cons]
    simp only [beq_self_eq_true,if_true,cellOf,hc,pure_bind]
    exact e
   ·rcases h1 x d hd with q | q
    ·rw [List.lookup_cons] at q
     split at q
     ·rename_i hx
      have hx':x=n:=by simpa using hx
      subst hx'
      exact .inr (hc.trans q)
     ·exact .inl q
    ·exact .inr q
   ·rcases List.mem_cons.mp hy with e' | e'
    ·subst e'
     exact h3 n c (by simp)
    ·exact h2 y e' hf
   ·by_cases hx:x=n
    ·subst hx
     exact h3 x c (by simp)
    ·have hb:(x == n)=false:=by simpa using hx
     exact h3 x d (by rw [List.lookup_cons,hb];exact hd)
  ·obtain ⟨cl,e,h1,h2,h3⟩:=znO env r cs fun y hy=>h y (List.mem_cons_of_mem _ hy)
   have hb:(k == NameKind.free)=false:=by simpa using hk
   refine ⟨cl,?_,h1,fun y hy hf=>?_,h3⟩
   ·rw [List.forIn_cons]
    simp only [hb,Bool.false_eq_true,if_false,pure_bind]
    exact e
   ·rcases List.mem_cons.mp hy with e' | e'
    ·subst e';exact absurd hf hk
    ·exact h2 y e' hf
theorem zlx {scope:Scope} {env:Env} (h:∀ y ∈ scope.names,y.2 = .free→∃ c,env.cells.lookup y.1=some c) :
  ∃ cl,closureFor scope env=pure cl∧(∀ x c,cl.lookup x=some c→env.cells.lookup x=some c)∧∀ y ∈ scope.names,y.2 = .free→∃ c,cl.lookup y.1=some c:=by
 obtain ⟨cl,e,h1,h2,_⟩:=znO env scope.names [] h
 refine ⟨cl,?_,fun x c hc=>(h1 x c hc).resolve_left (by simp),h2⟩
 unfold closureFor
 refine Eq.trans (congrArg (fun m=>m >>= fun cs=>pure cs) e) ?_
 rfl
section
variable {prog:Program} {w:World} {A:Around} {E:Value→Shared→Prop} {s:Shared}
end
end L2
namespace L2
open PySem PySem.Spec PyProof.Rows
section
variable {prog:Program} {w:World} {A:Around} {R:Result→Shared→Prop} {s:Shared}
theorem zmN {elt target iter:Expr} {ifs:List Expr} {scope:Scope} {pos:Pos} {it acc:Value} {env:Env} (I:Nat→Shared→Prop)
  (turn:∀ n s,I n s→wpAny (model prog w) A (pyNext it) (fun r s₁=>match r with
   | none=>R (.ok .next) s₁
   | some v=>wpAny (model prog w) A (letOwnedTupleGo target it v) (fun _ s₁'=>wpAny (model prog w) A (assign target env v) (fun _ s₂ =>
     wpAny (model prog w) A (forIn ifs true fun c r=>if r=true then do let ok ← isTrue c env (eval c env);pure (ForInStep.yield ok) else pure (ForInStep.yield r)) (fun ok s₃ =>
      if ok=true then wpAny (model prog w) A (eval elt env) (fun x s₄ =>
       wpAny (model prog w) A (call (.builtin "list.append") [acc,x]) (fun _ s₅=>∃ m,m < n∧I m s₅) (fun _ _=>False) s₄) (fun _ _=>False) s₃
      else ∃ m,m < n∧I m s₃) (fun _ _=>False) s₂) (fun _ _=>False) s₁') (fun _ _=>False) s₁) (fun _ _=>False) s)
  (n:Nat) (h:I n s) :
  codeAny (model prog w) A (.compLoop (.ListComp elt [⟨target,iter,ifs,0⟩] scope pos) 0 it acc env) R s:=by
 refine codeAny_loop rfl I (fun n s hI=>?_) n h
 show wpAny _ A ((compTurn (.ListComp elt [⟨target,iter,ifs,0⟩] scope pos) 0 it acc env).onRaise (fun x=>do noteFrame x env;theTreesLotGoes x)) _ _ s
 refine wpAny_noted ?_
 rw [compTurn_list]
 refine wpAny_bind (wpAny_standAt (wpAny_bind (wpAny_mono (turn n s hI) (fun r s₁ h₁=>?_) fun _ _ h'=>h'.elim)))
 cases r with
 | none=>exact wpAny_pure h₁
 | some v =>
  refine wpAny_bind (wpAny_mono h₁ (fun _ s₁' h₁'=>?_) fun _ _ h'=>h'.elim)
  refine wpAny_bind (wpAny_mono h₁' (fun _ s₂ h₂=>wpAny_bind (wpAny_mono h₂ (fun ok s₃ h₃=>?_) fun _ _ h'=>h'.elim)) fun _ _ h'=>h'.elim)
  cases ok with
  | false=>exact wpAny_pure ⟨rfl,h₃⟩
  | true =>
   exact wpAny_bind (wpAny_bind (wpAny_mono h₃ (fun x s₄ h₄=>wpAny_bind (wpAny_mono h₄ (fun _ s₅ h₅=>wpAny_pure (wpAny_pure ⟨rfl,h₅⟩)) fun _ _ h'=>h'.elim)) fun _ _ h'=>h'.elim))
end
def PIf (X:Cx) (ifs:List Expr) (t:TT):Prop :=
 ∀ (pins:List (Addr × Obj)) (s:Shared) (σ:St) (H:Hp) (Q:Bool→Hp→Prop),Inv X pins σ H s→t σ H Q →
  wpAny (model X.prog X.w) X.A (forIn ifs true fun c r=>if r=true then do let ok ← isTrue c X.env (eval c X.env);pure (ForInStep.yield ok) else pure (ForInStep.yield r)) (TP X pins σ Q) X.xe s
def tYes:TT:=fun _ H Q=>Q true H
theorem zvU {X:Cx}:PIf X [] tYes:=fun _ _ _ H _ I h=>wpAny_tests_nil ⟨H,I,h⟩
theorem zwt {X:Cx} {c:Expr} {t:TT} (h:PT X c t):PIf X [c] t:=fun pins s σ H Q I q=>wpAny_tests_one (h pins s σ H Q I q)
def lcCx (X:Cx) (scope:Scope) (ls:List Str) (js:List Nat) (cl:List (Str × Addr)) (C:Addr) (s:Shared) (H:Hp) (fp:List Addr):Cx :=
 { X with N:=ls ++ js.map (fun j=>X.N.getD j Str.empty),s₀:=s,H₀:=H,env:=compEnvC scope cl C X.env,outer:=X.stack,ex:=fp,fn:=fun _=>false,xe:=fun _ _=>False }
def lcSt (ls:List Str) (js:List Nat) (σ:St):St:=ls.map (fun _=>none) ++ js.map (fun j=>(σ[j]?).join)
def gk (env:Env) (n:Str) (k:NameKind):NameKind:=if (k == NameKind.free && env.scope.kind == .function && env.kindOf n == some .cell)=true then .cell else k
theorem zoW (env:Env) (names:List (Str × NameKind)):(names.map fun (n,k)=>if (k == NameKind.free && env.scope.kind == .function && env.kindOf n == some .cell) then (n,NameKind.cell) else (n,k))=names.map fun p=>(p.1,gk env p.1 p.2):=by
 refine List.map_congr_left fun p _=>?_
 obtain ⟨n,k⟩:=p
 show (if (k == NameKind.free && env.scope.kind == .function && env.kindOf n == some .cell)=true then (n,NameKind.cell) else (n,k))=(n,gk env n k)
 unfold gk
 split <;> rfl
theorem zh0 (env:Env) (x:Str):∀ names:List (Str × NameKind),(names.map fun p=>(p.1,gk env p.1 p.2)).lookup x=(names.lookup x).map (gk env x)
 | []=>rfl
 | (n,k) :: r=>by
  rw [List.map_cons]
  cases hx:x == n with
  | true =>
   have e:x=n:=by simpa using hx
   subst e
   rw [List.lookup_cons,List.lookup_cons]
   simp
  | false =>
   rw [List.lookup_cons,List.lookup_cons]
   simp only [hx]
   exact zh0 env x r
theorem lookup_mem {x:Str} {k:NameKind}:∀ {names:List (Str × NameKind)},names.lookup x=some k→(x,k) ∈ names
 | [],h=>by simp at h
 | (n,k') :: r,h=>by
  rw [List.lookup_cons] at h
  cases hx:x == n with
  | true =>
   have e:x=n:=by simpa using hx
   subst e
   simp only [beq_self_eq_true] at h
   cases h
   exact List.mem_cons_self ..
  | false =>
   simp only [hx] at h
   exact List.mem_cons_of_mem _ (lookup_mem h)
theorem zcE {env:Env} {names:List (Str × NameKind)} {x:Str} (h:names.lookup x=some .free) :
  (names.map fun (n,k)=>if (k == NameKind.free && env.scope.kind == .function && env.kindOf n == some .cell) then (n,NameKind.cell) else (n,k)).lookup x=some .cell ∨
  (names.map fun (n,k)=>if (k == NameKind.free && env.scope.kind == .function && env.kindOf n == some .cell) then (n,NameKind.cell) else (n,k)).lookup x=some .free:=by
 rw [zoW,zh0,h]
 show some (gk env x .free)=some .cell∨some (gk env x .free)=some .free
 unfold gk
 split
 ·exact .inl rfl
 ·exact .inr rfl
theorem zgj {env:Env} {names:List (Str × NameKind)} {x:Str} (hc:∀ y ∈ names,y.2 ≠ .cell)
  (h:(names.map fun (n,k)=>if (k == NameKind.free && env.scope.kind == .function && env.kindOf n == some .cell) then (n,NameKind.cell) else (n,k)).lookup x=some .cell ∨
   (names.map fun (n,k)=>if (k == NameKind.free && env.scope.kind == .function && env.kindOf n == some .cell) then (n,NameKind.cell) else (n,k)).lookup x=some .free):(x,NameKind.free) ∈ names:=by
 rw [zoW,zh0] at h
 cases e:names.lookup x with
 | none=>rw [e] at h;rcases h with h | h <;> cases h
 | some k =>
  have hm:=lookup_mem e
  by_cases hk:k = .free
  ·rw [hk] at hm;exact hm
  ·rw [e] at h
   have hg:gk env x k=k:=by
    unfold gk
    have hb:(k == NameKind.free)=false:=by simpa using hk
    rw [hb]
    rfl
   have h':gk env x k = .cell∨gk env x k = .free:=h.imp (fun z=>Option.some.inj z) fun z=>Option.some.inj z
   rw [hg] at h'
   rcases h' with z | z
   ·exact absurd z (hc _ hm)
   ·exact absurd z hk
structure LcOk (X:Cx) (scope:Scope) (ls:List Str) (js:List Nat):Prop where
 kind:scope.kind = .function
 cell:∀ y ∈ scope.names,y.2 ≠ .cell
 names:∀ y ∈ scope.names,y.2 = .local→scope.names.lookup y.1=some .local
 free:∀ y ∈ scope.names,y.2 = .free→X.env.kindOf y.1=some .cell∨X.env.kindOf y.1=some .free
 cap:∀ j ∈ js,∃ x,X.N[j]? = some x∧scope.names.lookup x=some .free
section
variable {X:Cx} {pins:List (Addr × Obj)} {σ:St} {H:Hp} {s:Shared}
theorem zwQ {scope:Scope} {ls:List Str} {js:List Nat} {cl:List (Str × Addr)} {C:Addr} {fp:List Addr} (L:LcOk X scope ls js) (I:Inv X pins σ H s)
  (h1:∀ x c,cl.lookup x=some c→X.env.cells.lookup x=some c) (h2:∀ y ∈ scope.names,y.2 = .free→∃ c,cl.lookup y.1=some c)
  {s':Shared} {H':Hp} (hC:s'.heap.objs.size ≤ C) (bs:∀ b o,X.base.get? b=some o→s'.heap.get? b=some o∧H' b=none) (bsz:X.base.objs.size ≤ s'.heap.objs.size)
  (funs:s'.heap.FunFrames X.base X.stack) (frf:∀ b ∈ frs X.stack,H' b=none)
  (exf:∀ b ∈ fp,b ≠ C∧∀ x c,X.env.cells.lookup x=some c→c ≠ b) (noex:∀ b o,X.base.get? b=some o→b ∉ fp) (exfs:∀ b ∈ fp,b ∉ frs X.stack) :
  (lcCx X scope ls js cl C s' H' fp).Ok where
 mod:=I.ok.mod
 kind:=L.kind
 glob:=I.ok.glob
 blt:=I.ok.blt
 above:=hC
 inj:=fun x y c a b=>I.ok.inj x y c (h1 x c a) (h1 y c b)
 has:=fun x hx=>h2 (x, .free) (zgj (env:=X.env) L.cell hx) rfl
 cab:=fun x c z=>by cases z
 hd:=I.ok.hd
 frames:=I.ok.frames
 stk := .inl rfl
 exf:=fun b hb=>⟨(exf b hb).1,fun x c e=>(exf b hb).2 x c (h1 x c e)⟩
 bs:=bs
 bsz:=bsz
 noex:=noex
 exfs:=exfs
 funs:=funs
 frf:=frf
theorem ztN {ls:List Str} {js:List Nat} {i:Nat} {v:V} (h:(lcSt ls js σ)[i]? = some (some v)):∃ k j,i=ls.length + k∧js[k]? = some j∧σ[j]? = some (some v):=by
 unfold lcSt at h
 by_cases hi:i < ls.length
 ·rw [List.getElem?_append_left (by simpa using hi),List.getElem?_map] at h
  cases e:ls[i]? with
  | none=>rw [e] at h;cases h
  | some y=>rw [e] at h;cases h
 ·rw [List.getElem?_append_right (by simpa using Nat.le_of_not_lt hi),List.getElem?_map,List.length_map] at h
  cases e:js[i - ls.length]? with
  | none=>rw [e] at h;cases h
  | some j =>
   rw [e] at h
   refine ⟨i - ls.length,j,by omega,e,?_⟩
   have h':(σ[j]?).join=some v:=Option.some.inj h
   cases q:σ[j]? with
   | none=>rw [q] at h';cases h'
   | some o =>
    rw [q] at h'
    exact congrArg some h'
def LcR (ls:List Str) (js:List Nat) (g:TG) (tc:TT) (te:TE) (σ:St) (Q:VK) (J:It) (H1:Hp):Prop:=∀ D,H1 D=none →
 ∃ W:Nat→Nat→St→Hp→Prop,(∃ m,W 0 m (lcSt ls js σ) (upd H1 D (.lst [])))∧∀ i m σ' H',W i m σ' H' →
  (J.stop i H'∧Q (.ref D) H')∨(J.go i H'∧∃ N:St→Hp→Prop,(∀ σ2 H2,N σ2 H2→∃ m',m' < m∧W (i + 1) m' σ2 H2) ∧
   ∀ x H2,J.yld i H' x H2→g x σ' H2 fun σ3 H3=>tc σ3 H3 fun c H4=>if c=true then te σ3 H4 fun y H5=>∃ ys,H5 D=some (.lst ys)∧ys.length < sizeLine∧N σ3 (upd H5 D (.lst (ys ++ [y]))) else N σ3 H4)
def tLC (ls:List Str) (js:List Nat) (wi:TI) (g:TG) (tc:TT) (te:TE):TE:=fun σ H Q=>wi σ H (LcR ls js g tc te σ Q)
theorem zz3 {elt tg iter:Expr} {ifs:List Expr} {scope:Scope} {pos:Pos} {ls:List Str} {js:List Nat} {wi:TI} {g:TG} {tc:TT} {te:TE} (hc:X.calm=true) (L:LcOk X scope ls js) (hi:PI X tg iter wi)
  (hb:∀ cl C s H fp,PG (lcCx X scope ls js cl C s H fp) tg g∧PIf (lcCx X scope ls js cl C s H fp) ifs tc∧PE (lcCx X scope ls js cl C s H fp) elt te)
  (hs:∀ x,foldedSetIterable iter X.env x=pure x:=by intro _;rfl):PE X (.ListComp elt [⟨tg,iter,ifs,0⟩] scope pos) (tLC ls js wi g tc te):=by
 intro pins s σ H Q I h
 obtain ⟨cl,hcl,hk1,hk2⟩:=zlx (scope:=scope) (env:=X.env) fun y hy hf=>I.ok.has y.1 (L.free y hy hf)
 rw [eval_ListComp]
 refine wpAny_comprehension_free (use:=none) rfl hs hcl L.kind L.names (thn (hi pins s σ H _ I h) fun v s1 h1=>thn h1 fun itv s2 h2=>?_)
 obtain ⟨it,fp,tn,J,H1,e,I2,T,st2,f2,h2⟩:=h2
 subst e
 refine wpAny_newObj_type (wpAny_newFunctionEnv L.cell (by intro y hy;simp at hy) (fun h₁ hns₁ hsb₁=>?_) L.kind)
 dsimp only at hns₁ hsb₁ ⊢
 generalize hH2:s2.heap.push { cls := .type "list",dict:=none,data := .seq ([] : List Value).toArray }=G2 at hns₁ hsb₁ ⊢
 have hCz:G2.objs.size=s2.heap.objs.size + 1:=by rw [← hH2,Heap.size_push]
 have hD0:H1 s2.heap.objs.size=none:=I2.hok.fresh (Nat.le_refl _)
 have hC0:H1 G2.objs.size=none:=I2.hok.fresh (by omega)
 have hDC:s2.heap.objs.size ≠ G2.objs.size:=by omega
 have hG2D:G2.get? s2.heap.objs.size=some { cls := .type "list",dict:=none,data := .seq ([] : List Value).toArray }:=by rw [← hH2];exact Heap.get?_push_size _ rfl
 have keepG:∀ b o,s2.heap.get? b=some o→G2.get? b=some o:=fun b o e=>by rw [← hH2];exact Heap.get?_push_of_some _ e
 have I3:Inv X pins σ (upd H1 s2.heap.objs.size (.lst [])) { s2 with heap:=G2,toks:=s2.toks } :=
  I2.laid (t':=s2.toks) keepG (Nat.le_refl _) (show zc6 X.prog X.w _ G2 _ (.lst []) from ⟨by simp,[],0, .nil,hG2D⟩)
 have keep1:∀ b o,G2.get? b=some o→h₁.get? b=some o:=fun b o e=>(hsb₁.2 b (Nat.ne_of_lt (Heap.lt_size e))).trans (Heap.get?_push_of_some _ e)
 have I4:Inv X pins σ (upd H1 s2.heap.objs.size (.lst [])) { s2 with heap:=h₁,toks:=s2.toks + 0 }:=I3.kept (h':=h₁) (t':=s2.toks + 0) keep1
 generalize hT:(H1,(⟨tg,iter,ifs,0⟩ : Comprehension))=junk
 clear hT junk
 have fpsz:∀ b ∈ fp,b < s2.heap.objs.size:=fun b hb=>by
  obtain ⟨o,e,_⟩:=T.obj 0 _ st2 b hb
  exact Heap.lt_size e
 have fpD:s2.heap.objs.size ∉ fp:=fun z=>Nat.lt_irrefl _ (fpsz _ z)
 have fpC:∀ b ∈ fp,b ≠ G2.objs.size:=fun b hb=>Nat.ne_of_lt (by rw [hCz];exact Nat.lt_succ_of_lt (fpsz b hb))
 have okC:(lcCx X scope ls js cl G2.objs.size { s2 with heap:=G2 } (upd H1 s2.heap.objs.size (.lst [])) fp).Ok:=by
  refine zwQ L I3 hk1 hk2 (Nat.le_refl _) I3.bs (Nat.le_trans I3.ok.bsz I3.sz) I3.stack I3.znm (fun b hb=>⟨fpC b hb,(f2 b hb).2.2.2.2.1⟩) (fun b o e hb=>?_) (fun b hb z=>?_)
  ·rcases (f2 b hb).2.2.2.1 with q | q
   ·exact I2.ok.noex b o e q
   ·exact absurd (Nat.lt_of_lt_of_le (Heap.lt_size (I2.ok.bs b o e).1) q) (Nat.lt_irrefl _)
  ·rcases List.mem_cons.mp (I3.zmF b z) with q | q
   ·exact (f2 b hb).2.1 q
   ·exact (f2 b hb).2.2.1 q
 have IC:Inv (lcCx X scope ls js cl G2.objs.size { s2 with heap:=G2 } (upd H1 s2.heap.objs.size (.lst [])) fp) [] (lcSt ls js σ) (upd H1 s2.heap.objs.size (.lst [])) { s2 with heap:=h₁,toks:=s2.toks + 0 }:=by
  refine ⟨okC,rfl,I4.bare,Un.kept keep1,⟨_,hns₁,fun i x v e1 e2 e3=>?_⟩,fun x c e=>I4.cell x c (hk1 x c e),?_,fun x c e=>I4.freeC x c (hk1 x c e),fun p hp=>?_,I4.hok,?_⟩
  ·obtain ⟨k,j,hi',hj,hσ⟩:=ztN e2
   obtain ⟨y,hy,hyf⟩:=L.cap j (List.mem_of_getElem? hj)
   have hxy:x=y:=by
    have e1':(ls ++ js.map (fun j=>X.N.getD j Str.empty))[i]? = some x:=e1
    rw [hi',List.getElem?_append_right (Nat.le_add_right ..),Nat.add_sub_cancel_left,List.getElem?_map,hj] at e1'
    have e1'':X.N.getD j Str.empty=x:=Option.some.inj e1'
    rw [← e1'',List.getD_eq_getElem?_getD,hy]
    rfl
   subst hxy
   have hkf:X.env.kindOf x=some .cell∨X.env.kindOf x=some .free:=by
    have hm:(x,NameKind.free) ∈ scope.names:=by
     have q:=zgj (env:=X.env) L.cell (zcE (env:=X.env) hyf)
     exact q
    exact L.free _ hm rfl
   obtain ⟨m,hn,hl⟩:=I4.loc
   obtain ⟨u,r,l⟩:=hl j x v hy hσ (hkf.elim (fun z => .inr (.inl z)) fun z => .inr (.inr z))
   refine ⟨u,r, .inr ⟨zcE (env:=X.env) hyf,?_⟩⟩
   rcases l with ⟨kl,_⟩ | ⟨_,c,hc',z⟩
   ·rcases hkf with q | q
    ·rw [q] at kl;cases kl
    ·rw [q] at kl;cases kl
   ·have hm:(x,NameKind.free) ∈ scope.names:=zgj (env:=X.env) L.cell (zcE (env:=X.env) hyf)
    obtain ⟨c',hc''⟩:=hk2 _ hm rfl
    have:=hk1 _ _ hc''
    rw [hc'] at this
    cases this
    exact ⟨c,hc'',z⟩
  ·show upd H1 s2.heap.objs.size (.lst []) G2.objs.size=none
   rw [zan (Ne.symm hDC)]
   exact hC0
  ·have hp':p ∈ X.pn:=by simpa [lcCx] using hp
   obtain ⟨e,n,ne,nf,d⟩:=I4.pin p (List.mem_append_left _ hp')
   obtain ⟨e3,_⟩:=I3.pin p (List.mem_append_left _ hp')
   refine ⟨e,n,?_,fun z=>?_,d⟩
   ·exact Nat.ne_of_lt (Heap.lt_size e3)
   ·rcases List.mem_cons.mp (I3.zmF p.1 z) with q | q
    ·exact ne q
    ·exact nf q
  ·simp [lcSt,lcCx]
 obtain ⟨hbG,hbI,hbE⟩:=hb cl G2.objs.size { s2 with heap:=G2 } (upd H1 s2.heap.objs.size (.lst [])) fp
 obtain ⟨W,⟨m0,w0⟩,turn⟩:=h2 s2.heap.objs.size hD0
 have st0:tn 0 h₁:=T.keep _ _ _ st2 fun b hb o e=>keep1 b o (keepG b o e)
 have frz:∀ {H':Hp},(∀ b ∈ fp,H' b=none)→∀ b ∈ fp,FpOk (lcCx X scope ls js cl G2.objs.size { s2 with heap:=G2 } (upd H1 s2.heap.objs.size (.lst [])) fp) [] H' b:=fun hn b hb=>by
  refine ⟨hn b hb,fpC b hb,fun z=>?_, .inl hb,fun x c e=>(f2 b hb).2.2.2.2.1 x c (hk1 x c e),fun p hp=>?_⟩
  ·rcases List.mem_cons.mp (I3.zmF b z) with q | q
   ·exact (f2 b hb).2.1 q
   ·exact (f2 b hb).2.2.1 q
  ·have hp':p ∈ X.pn:=by simpa [lcCx] using hp
   exact (f2 b hb).2.2.2.2.2 p (List.mem_append_left _ hp')
 have fr0:∀ b ∈ fp,(upd H1 s2.heap.objs.size (.lst [])) b=none:=fun b hb=>by
  rw [zan (show b ≠ s2.heap.objs.size from Nat.ne_of_lt (fpsz b hb))]
  exact (f2 b hb).1
 have loop:∀ s4:Shared,s4 = { s2 with heap:=h₁,toks:=s2.toks + 0 } →
   codeAny (model X.prog X.w) X.A (.compLoop (.ListComp elt [⟨tg,iter,ifs,0⟩] scope pos) 0 (.ref it) (.ref s2.heap.objs.size) (compEnvC scope cl G2.objs.size X.env))
    (compPost (model X.prog X.w) X.A X.xe none (EP X pins σ Q) (.ref s2.heap.objs.size) G2.objs.size) s4:=by
  rintro s4 rfl
  refine zmN (fun n s'=>∃ i σ' H',Inv (lcCx X scope ls js cl G2.objs.size { s2 with heap:=G2 } (upd H1 s2.heap.objs.size (.lst [])) fp) [] σ' H' s'∧tn i s'.heap∧(∀ b ∈ fp,H' b=none)∧W i n σ' H') ?_ m0 ⟨0,_,_,IC,st0,fr0,w0⟩
  rintro n s5 ⟨i,σ5,H5,I5,st5,fr5,w5⟩
  rcases turn i n σ5 H5 w5 with ⟨stop,qn⟩ | ⟨go,N,hN,step⟩
  ·refine thn (T.done (lcCx X scope ls js cl G2.objs.size { s2 with heap:=G2 } (upd H1 s2.heap.objs.size (.lst [])) fp) rfl rfl rfl hc i [] s5 σ5 H5 _ I5 (frz fr5) st5 stop) fun r s6 ⟨hr,I6⟩=>?_
   subst hr
   obtain ⟨m6,hn6,_⟩:=I6.loc
   refine ⟨m6,hn6,fun h' hsb=>⟨.ref s2.heap.objs.size,H5,?_,rfl,qn⟩⟩
   have un1:Un (frs X.stack) fp (upd H1 s2.heap.objs.size (.lst [])) H5 G2 s6.heap:=I6.base
   have un0:Un (frs X.stack) fp H1 (upd H1 s2.heap.objs.size (.lst [])) s2.heap G2:=Un.laid keepG (Nat.le_refl _) hD0
   have un:=un0.trans un1
   have neC:∀ b o,s2.heap.get? b=some o→b ≠ G2.objs.size:=fun b o e=>Nat.ne_of_lt (by rw [hCz];exact Nat.lt_succ_of_lt (Heap.lt_size e))
   have un':Un (frs X.stack) fp H1 H5 s2.heap h':=⟨fun b o e n a x=>(hsb.2 b (neC b o e)).trans (un.keep b o e n a x),fun b o e n a x=>by
    obtain ⟨sl,q⟩:=un.slot b o e n a x
    exact ⟨sl,(hsb.2 b (neC b o e)).trans q⟩,un.free,fun b o e x=>by
    obtain ⟨o',q⟩:=un.there b o e x
    exact ⟨o',(hsb.2 b (neC b o e)).trans q⟩,un.tups,un.frzs,un.tbls⟩
   have hok':HOk X.prog X.w H5 h':=fun b o e=>by
    refine (I6.hok b o e).stay (fun c u hc' q=>(hsb.2 c ?_).trans q) (fun _ q=>q) fun _ _ q=>q
    have hfree:H5 G2.objs.size=none:=I6.free
    rintro rfl
    rcases hc' with z | z
    ·subst z;rw [hfree] at e;cases e
    ·rw [hfree] at z;cases z
   refine I2.zxa (s':={ s6 with heap:=h' }) (ch:=fp) ?_ un' hok' I6.bare fun b hb=>⟨(f2 b hb).2.2.2.1,(f2 b hb).2.1,(f2 b hb).2.2.2.2.1,(f2 b hb).2.2.2.2.2⟩
   exact I6.os
  ·refine thn (T.item (lcCx X scope ls js cl G2.objs.size { s2 with heap:=G2 } (upd H1 s2.heap.objs.size (.lst [])) fp) rfl rfl rfl hc i [] s5 σ5 H5 _ I5 (frz fr5) st5 go) fun r s6 ⟨u,hr,h6⟩=>?_
   subst hr
   refine thn h6 fun _ s7 ⟨x,H7,I7,r7,y7,st7,fr7⟩=>?_
   have I7':=I7.pinned (frz fr7) (T.obj _ _ st7)
   refine thn (hbG _ s7 σ5 H7 x u _ I7' r7 (step x H7 y7)) fun _ s8 ⟨σ8,H8,I8,q8⟩=>?_
   refine thn (hbI _ s8 σ8 H8 _ I8 q8) fun ok s9 ⟨H9,I9,q9⟩=>?_
   have again:∀ {σa:St} {Ha:Hp} {sa:Shared},Inv (lcCx X scope ls js cl G2.objs.size { s2 with heap:=G2 } (upd H1 s2.heap.objs.size (.lst [])) fp) ([] ++ zmK fp s7.heap) σa Ha sa→N σa Ha →
     ∃ m,m < n∧∃ i σ' H',Inv (lcCx X scope ls js cl G2.objs.size { s2 with heap:=G2 } (upd H1 s2.heap.objs.size (.lst [])) fp) [] σ' H' sa∧tn i sa.heap∧(∀ b ∈ fp,H' b=none)∧W i m σ' H':=fun {σa Ha sa} Ia na=>by
    obtain ⟨m',hm,wa⟩:=hN σa Ha na
    refine ⟨m',hm,i + 1,σa,Ha,Ia.zi4,T.keep _ _ _ st7 fun b hb o e=>(Ia.pin (b,o) (List.mem_append_right _ (List.mem_append_right _ (zgB hb e)))).1,fun b hb=>?_,wa⟩
    obtain ⟨o,e,d⟩:=T.obj _ _ st7 b hb
    exact (Ia.pin (b,o) (List.mem_append_right _ (List.mem_append_right _ (zgB hb e)))).2.1
   cases ok with
   | false=>exact again I9 q9
   | true =>
    refine thn (hbE _ s9 σ8 H9 _ I9 q9) fun y s10 ⟨z,H10,I10,r10,ys,hD,hlt,nn⟩=>?_
    obtain ⟨zz,its,k,r,hl,e⟩:=I10.lstM hD
    refine call_meets F.slot_list_append ⟨_,e,rfl⟩ F.entry_list_append (F.args_list_append_2 _ _) (PySem.list_append s2.heap.objs.size its.toArray k y (by rw [List.size_toArray];omega)) ⟨e,?_⟩
    refine again (I10.lset (its':=its ++ [y]) (t':=s10.toks) hD e ?_ (r.append (.cons r10 .nil)) ?_) nn
    ·simp
    ·simp;omega
 exact codeAny_compStart_list (loop _ rfl) (T.self _ 0 _ _ _ st0 (loop _ rfl))
end
end L2
namespace L2
open PySem PySem.Spec PyProof.Rows
section
variable {X:Cx}
theorem zuE (hc:X.calm=true):zhD X (.builtin "sum") (fun xs H Q=>∃ (a:Addr) (ns:List Int),xs=[.ref a]∧SqL X.K H a (ns.map V.int)∧Q (.int ns.sum) H):=by
 intro pins s σ H xs us Q I r h
 obtain ⟨a,ns,rfl,hq,q⟩:=h
 obtain ⟨u,rfl,ru⟩:=vals1 r
 cases ru
 obtain ⟨its,rv,pl,hz⟩:=I.list hq
 have hi:IntsAre its ns:=intsAre_of rv
 obtain ⟨xs,hxs⟩:=hi.allInts.items
 have hl:s.heap.IsList a (intItems xs):=hxs ▸ pl.isList
 refine sum_intListG (I.ok.hd hc) hl fun h' tk t' hk=>?_
 have e:preSum (numAt xs) xs.size=ns.sum:=by
  rw [preSum_eq,List.take_of_length_le (by simp),← nums_intItems,← hxs,show its.toArray.toList=its from rfl,hi.numsOf]
 exact ⟨.int ns.sum,H,I.kept (t':=tk) hk,⟨t',by rw [e]⟩,q⟩
theorem zod:zhD X (.builtin "isinstance") (fun xs H Q=>∃ x n t b,xs=[x, .ty n]∧TyOf X.K H x t∧PySem.W.kitOne X.K t (.type n)=some b∧Q (.bl b) H):=by
 intro pins s σ H xs us Q I r h
 obtain ⟨x,n,t,b,rfl,ty,e,q⟩:=h
 obtain ⟨u,v,rfl,rx,ry⟩:=vals2 r
 cases ry
 exact zsN I rx ty e fun tk=>⟨.bl b,H,I.tok tk,rfl,q⟩
end
inductive Dt where
 | int (i:Int) | bl (b:Bool) | str (x:Str) | non | tup (ds:List Dt) | lst (ds:List Dt)
def Den (K:PySem.W.Frag) (H:Hp):Nat→V→Dt→Prop
 | _,v, .int j=>v = .int j
 | _,v, .bl b=>v = .bl b
 | _,v, .str x=>v = .str x
 | _,v, .non=>v = .non
 | 0,_, .tup _=>False
 | 0,_, .lst _=>False
 | n + 1,v, .tup ds=>∃ a xs,v = .ref a∧SqT K H a xs∧Paired (Den K H n) xs ds
 | n + 1,v, .lst ds=>∃ a xs,v = .ref a∧SqL K H a xs∧Paired (Den K H n) xs ds
theorem Same.seqT {K:PySem.W.Frag} {H H':Hp} {a:Addr} {xs:List V} (e:Same H H') (h:SqT K H a xs):SqT K H' a xs:=by
 rcases h with (h | ⟨o,h⟩) | h
 ·exact .inl (.inl (e _ _ h))
 ·exact .inl (.inr ⟨o,e _ _ h⟩)
 ·exact .inr h
theorem Den.same {K:PySem.W.Frag} {H H':Hp} (e:Same H H'):∀ {n:Nat} {v:V} {d:Dt},Den K H n v d→Den K H' n v d:=by
 intro n
 induction n with
 | zero=>intro v d h;cases d <;> first | exact h | exact h.elim
 | succ n ih =>
  intro v d h
  cases d with
  | tup ds =>
   obtain ⟨a,xs,h1,h2,h3⟩:=h
   exact ⟨a,xs,h1,e.seqT h2,Paired.mapP h3 fun _ _ q=>ih q⟩
  | lst ds =>
   obtain ⟨a,xs,h1,h2,h3⟩:=h
   exact ⟨a,xs,h1,e.seq h2,Paired.mapP h3 fun _ _ q=>ih q⟩
  | int i=>exact h
  | bl b=>exact h
  | str x=>exact h
  | non=>exact h
theorem Paired.get {α β:Type} {F:α→β→Prop}:∀ {l₁:List α} {l₂:List β} {i:Nat} {a:α},Paired F l₁ l₂→l₁[i]? = some a→∃ b,l₂[i]? = some b∧F a b
 | _,_,_,_, .nil,e=>by simp at e
 | _,_,0,_, .cons r _,e=>by simp at e;subst e;exact ⟨_,rfl,r⟩
 | _,_,i + 1,x, .cons _ t,e=>by
  obtain ⟨u,h1,h2⟩:=Paired.get (i:=i) (a:=x) t (by simpa using e)
  exact ⟨u,by simpa using h1,h2⟩
section
variable {X:Cx} {pins:List (Addr × Obj)} {σ:St} {H:Hp} {s:Shared}
end
section
variable {X:Cx}
end
end L2
namespace L2
open PySem PySem.Spec PyProof.Rows
structure HasFn (K:PySem.W.Frag) (mg:Str→Option Value) (x:Str) (st:Stmt):Prop where
 ex:∃ f fd,mg x=some (.ref f)∧Fun K x x st f fd
theorem zaY {K:PySem.W.Frag} {h:Heap} {mg:Str→Option Value} {x:Str} {st:Stmt} {f:Addr} {oc:Value} {od an:Option Addr} {osl:Array (Option Value)} {kV doc pm cdv ct:Value} (X:K.In h) (G:h.Ns mainGlobals mg)
  (a:PySem.W.nsIn K mainGlobals x=some (some (.ref f))) (l:K.lookup f=some ⟨oc,od, .func (PySem.W.fnOf x x (zar st) (zaj st) (zac st) .none kV doc pm an cdv ct),osl⟩)
  (c:PySem.W.codeIn K cdv x=true) (k:PySem.W.keepIn K (.ref f)=true):HasFn K mg x st:=⟨⟨f,_,PySem.W.mg_of X G a,zi7 l c k⟩⟩
structure Def (P:Program) (w:World) (K:PySem.W.Frag) (mg:Str→Option Value) (base:Heap) (x:Str) (k:Nat) (ps:List Str) (sp:Sp):Prop where
 ex:∃ f fd,FnOk P w K mg base CX0 k f fd ps sp∧mg x=some (.ref f)∧PySem.W.keepIn K (.ref f)=true∧Binds K fd ps []
theorem zyd {X:Cx} {k:Nat} {x:Str} {ps:List Str} {sp:Sp} {e:Expr} {es:List Expr} {t:TA} {p pos:Pos} (D:Def X.prog X.w X.K X.mg X.base x k ps sp) (hr:Room k X.A) (hg:Gl X x) (ha:PA X (e :: es) t)
  (hdb:(x == ("__debug__" : Str))=false:=by decide) (he:starEach (e :: es) X.env=(false,eval e X.env) :: starEach es X.env:=by rfl) (hpl:(backTo pos (starEach es X.env)).any (·.1)=false:=by rfl) :
  PE X (.Call (.Name x p) (e :: es) [] pos) (zyo sp [] E0 t):=by
 obtain ⟨f,fd,F,hm,hk,hb⟩:=D.ex
 exact zw2 F hr hg hm hk hb .nil zyA ha hdb he hpl
theorem Def.of {P:Program} {w:World} {K:PySem.W.Frag} {mg:Str→Option Value} {base:Heap} {x:Str} {st:Stmt} {N ps:List Str} {k:Nat} {sp:Sp} (h:HasFn K mg x st) (S:zaq N ps (zac st))
  (bind:∀ (kV doc pm:Value) (an:Option Addr) (cdv ct:Value) (us:List Value),us.length=ps.length→bindArgs (PySem.W.fnOf x x (zar st) (zaj st) (zac st) .none kV doc pm an cdv ct) ⟨us,[]⟩ = pure (ps.zip us))
  (len:∀ vs H Q E,sp vs H Q E→vs.length=ps.length)
  (hbody:∀ (f:Addr) (cdv:Value) (A:Around) (outer:List Env) (s:Shared) (H:Hp) (vs:List V) (Q:VK) (E:XK),Room k (A.deeper (envOfC x (zac st) s.heap.objs.size f cdv))→sp vs H Q E →
   ∃ t,PSs (cxOf CX0 P w K mg base N x (zac st) f cdv A outer s H E).nox (zaj st) t∧t { nx:=fun _ H'=>Q .non H',rt:=Q } (start N vs) H):Def P w K mg base x (k + 1) ps sp:=by
 obtain ⟨f,fd,hm,F⟩:=h.ex
 exact ⟨f,fd,F.ok S len (hbody f),hm,F.kp,F.binds bind⟩
theorem Same.new {H:Hp} {p:Addr} {o:HO} (h:H p=none):Same H (upd H p o):=fun b u e=>by rw [zan (zaz e h)];exact e
def Kept (l:Addr) (H H':Hp):Prop:=∀ b o,b ≠ l→H b=some o→H' b=some o
theorem Kept.upd (l:Addr) (H:Hp) (o:HO):Kept l H (upd H l o):=fun b u hb e=>by rw [zan hb];exact e
theorem Same.kept {l:Addr} {H H':Hp} (h:Same H H'):Kept l H H':=fun b o _ e=>h b o e
theorem Kept.trans {l:Addr} {H H1 H2:Hp} (a:Kept l H H1) (b:Kept l H1 H2):Kept l H H2:=fun c o hc e=>b c o hc (a c o hc e)
theorem Kept.seqT {K:PySem.W.Frag} {l:Addr} {H H':Hp} {a:Addr} {xs ys:List V} (e:Kept l H H') (hl:H l=some (.lst ys)) (h:SqT K H a xs):SqT K H' a xs:=by
 rcases h with (h | ⟨o,h⟩) | h
 ·exact .inl (.inl (e _ _ (znw h hl (by intro z;cases z)) h))
 ·exact .inl (.inr ⟨o,e _ _ (znw h hl (by intro z;cases z)) h⟩)
 ·exact .inr h
def IsTI (K:PySem.W.Frag) (H:Hp) (v:V) (ns:List Int):Prop:=∃ p,v = .ref p∧SqT K H p (ns.map V.int)
theorem IsTI.same {K:PySem.W.Frag} {H H':Hp} {v:V} {ns:List Int} (e:Same H H') (h:IsTI K H v ns):IsTI K H' v ns:=let ⟨p,a,b⟩:=h; ⟨p,a,e.seqT b⟩
theorem IsTI.kept {K:PySem.W.Frag} {l:Addr} {H H':Hp} {v:V} {ns:List Int} {ys:List V} (e:Kept l H H') (hl:H l=some (.lst ys)) (h:IsTI K H v ns):IsTI K H' v ns:=let ⟨p,a,b⟩:=h; ⟨p,a,e.seqT hl b⟩
def Rows (K:PySem.W.Frag) (H:Hp) (xs:List V) (rs:List (List Int)):Prop:=Paired (IsTI K H) xs rs
theorem Rows.same {K:PySem.W.Frag} {H H':Hp} {xs:List V} {rs:List (List Int)} (e:Same H H') (h:Rows K H xs rs):Rows K H' xs rs:=Paired.mapP h fun _ _ q=>q.same e
theorem Rows.kept {K:PySem.W.Frag} {l:Addr} {H H':Hp} {xs ys:List V} {rs:List (List Int)} (e:Kept l H H') (hl:H l=some (.lst ys)) (h:Rows K H xs rs):Rows K H' xs rs:=Paired.mapP h fun _ _ q=>q.kept e hl
end L2
namespace L2
open PySem PySem.Spec PyProof.Rows
def TbAt (h₀ h:Heap) (H:Hp) (x:Addr) (vs:Array Value):Prop :=
 ∃ T oT ts,vs[1]? = some (.ref T)∧T ≠ x∧h₀.get? T=none∧H T=none∧h.get? T=some oT∧oT.data = .fields ts∧3 < ts.size
def ExAt (h₀ h:Heap) (H:Hp) (x:Addr) (cls:Value) (dx:Option Addr) (tb:Bool):Prop :=
 h₀.get? x=none∧H x=none∧∃ oe vs,h.get? x=some oe∧oe.cls=cls∧oe.dict=dx∧oe.data = .fields vs∧1 < vs.size∧((tb=false∧vs[1]? = some .none)∨TbAt h₀ h H x vs)
theorem ExAt.any {h₀ h:Heap} {H:Hp} {x:Addr} {cls:Value} {dx:Option Addr} {tb:Bool} (e:ExAt h₀ h H x cls dx tb):ExAt h₀ h H x cls dx false:=by
 obtain ⟨a,b,oe,vs,c1,c2,c3,c4,c5,c6⟩:=e
 exact ⟨a,b,oe,vs,c1,c2,c3,c4,c5,c6.imp (fun z=>⟨rfl,z.2⟩) id⟩
structure Top1 (X:Cx):Prop where
 stk:X.stack=X.env :: X.outer
 frm:X.env.frame=some X.env.locals
 pn:X.pn=[]
theorem Top1.mem {X:Cx} (t:Top1 X) {b:Addr}:b ∈ frs X.stack↔b=X.env.locals∨b ∈ X.fs:=by
 rw [t.stk]
 unfold frs
 rw [List.filterMap_cons,t.frm]
 exact List.mem_cons
section
variable {X:Cx} {σ:St} {H:Hp} {s:Shared}
theorem Inv.recs {h':Heap} {ch:List Addr} (I:Inv X [] σ H s) (t:Top1 X) (hch:∀ b ∈ ch,X.s₀.heap.get? b=none∧H b=none∧∃ o vs,s.heap.get? b=some o∧o.data = .fields vs)
  (keep:∀ b o,b ∉ frs X.stack→b ∉ ch→s.heap.get? b=some o→h'.get? b=some o) (slot:∀ b o,b ∈ frs X.stack→s.heap.get? b=some o→∃ sl,h'.get? b=some { o with slots:=sl }) :
  Inv X [] σ H { s with heap:=h' }:=by
 have ncell:∀ c v,s.heap.IsCell c v→c ∉ ch:=fun c v ⟨o,ho,hd⟩ hc=>by
  obtain ⟨_,_,o',vs,e,d⟩:=hch c hc
  rw [ho] at e;cases e
  rw [hd] at d;cases d
 have any:∀ b o,b ∉ ch→s.heap.get? b=some o→∃ sl,h'.get? b=some { o with slots:=sl }:=fun b o hc e=>by
  by_cases hb:b ∈ frs X.stack
  ·exact slot b o hb e
  ·exact ⟨o.slots,keep b o hb hc e⟩
 have cellK:∀ c v,s.heap.IsCell c v→h'.IsCell c v:=fun c v z=>by
  obtain ⟨o,ho,hd⟩:=id z
  obtain ⟨sl,e⟩:=any c o (ncell c v z) ho
  exact ⟨_,e,hd⟩
 have old:∀ b o,X.s₀.heap.get? b=some o→b ≠ X.env.locals∧b ∉ ch:=fun b o e =>
  ⟨Nat.ne_of_lt (Nat.lt_of_lt_of_le (Heap.lt_size e) I.ok.above),fun hc=>by rw [(hch b hc).1] at e;cases e⟩
 have nfr:∀ b,b ≠ X.env.locals→b ∉ X.fs→b ∉ frs X.stack:=fun b h1 h2 z=>(t.mem.mp z).elim h1 h2
 refine ⟨I.ok,I.os,I.bare,⟨fun b o e n hb hx=>?_,fun b o e n hb hx=>?_,I.base.free,fun b o e hx=>?_,I.base.tups,I.base.frzs,I.base.tbls⟩,?_,fun x c e=>?_,I.free,I.freeC,fun p hp=>?_,fun b u e=>?_,I.len⟩
 ·exact keep b o (nfr b (old b o e).1 hb) (old b o e).2 (I.base.keep b o e n hb hx)
 ·obtain ⟨sl,e1⟩:=I.base.slot b o e n hb hx
  obtain ⟨sl',e2⟩:=any b _ (old b o e).2 e1
  exact ⟨sl',e2⟩
 ·obtain ⟨o',e1⟩:=I.base.there b o e hx
  obtain ⟨sl,e2⟩:=any b o' (old b o e).2 e1
  exact ⟨_,e2⟩
 ·obtain ⟨m,hn,hl⟩:=I.loc
  obtain ⟨o,es,ep,ho,hd,r⟩:=id hn
  have hLc:X.env.locals ∉ ch:=fun hc=>by
   obtain ⟨_,_,o',vs,e,d⟩:=hch _ hc
   rw [ho] at e;cases e
   rw [hd] at d;cases d
  obtain ⟨sl,e⟩:=any _ o hLc ho
  refine ⟨m,⟨_,es,ep,e,hd,r⟩,fun i x v e1 e2 e3=>?_⟩
  obtain ⟨u,ru,l⟩:=hl i x v e1 e2 e3
  refine ⟨u,ru,?_⟩
  rcases l with l | ⟨k,c,ec,z⟩
  ·exact .inl l
  ·exact .inr ⟨k,c,ec,cellK c _ z⟩
 ·obtain ⟨v,z⟩:=I.cell x c e
  exact ⟨v,cellK c v z⟩
 ·rw [t.pn] at hp
  simp at hp
 ·refine (I.hok b u e).stay (fun c v hc q=>keep c v ?_ ?_ q) (fun _ q=>q) fun _ _ q=>q
  ·intro z
   have f:=I.znm c z
   rcases hc with y | y
   ·rw [y,e] at f;cases f
   ·rw [y] at f;cases f
  ·intro z
   have f:=(hch c z).2.1
   rcases hc with y | y
   ·rw [y,e] at f;cases f
   ·rw [y] at f;cases f
variable {M:Model} {E:Value→Shared→Prop} {x:Addr} {cls:Value} {dx:Option Addr}
theorem ExAt.ztA (I:Inv X [] σ H s) {b:Addr} {o:Obj} {vs:Array Value} (e:s.heap.get? b=some o) (d:o.data = .fields vs):b ∉ frs X.stack:=fun hm=>by
 obtain ⟨_,o',ho,hnf⟩:=I.stack.mem hm
 rw [e] at ho;cases ho
 exact hnf vs d
theorem zoO (I:Inv X [] σ H s) (t:Top1 X) {oe:Obj} {vs:Array Value} {head:Value} {had:Bool} {Q:Unit→Shared→Prop} (hx0:X.s₀.heap.get? x=none) (hxH:H x=none) (he:s.heap.get? x=some oe) (hd:oe.data = .fields vs) (hsz:1 < vs.size)
  (q:∀ h',Inv X [] σ H { s with heap:=h' }→ExAt X.s₀.heap h' H x oe.cls oe.dict true→Q () { s with heap:=h' }) :
  wpAny M X.A (do let a ← frameOf X.env;let pl ← entryPlaceOf X.env.locals had;let b ← EntryCells.newEntry head a .none (rawInt X.env.locals) .none pl;setField (.ref x) 1 b) Q E s:=by
 have hfr:X.A.frames=some (X.env :: X.outer):=by rw [← t.stk];exact I.ok.frames
 have hl:s.heap.FunFrames X.base (X.env :: X.outer):=by rw [← t.stk];exact I.stack
 have hne:x ∉ frs X.stack:=ExAt.ztA I he hd
 have efr:(X.env :: X.outer).filterMap (·.frame)=frs X.stack:=by rw [t.stk];rfl
 refine wpAny_bind (wpAny_frameOf_fun hfr hl t.frm fun h1 s1=>wpAny_bind (wpAny_entryPlaceOf fun pl hpl=>?_))
 rw [efr] at s1
 unfold EntryCells.newEntry
 unfold newFields
 refine wpAny_bind (wpAny_newObj_type ?_ (hpl.sizeOk5 _ _ _ _ _))
 have he1:h1.get? x=some oe:=(s1.2.1 x hne).trans he
 generalize hto:({ cls := .type "traceback",dict:=none,data := .fields ([head, .ref X.env.locals, .none,rawInt X.env.locals, .none] ++ (if pl.isEmpty then List.replicate 6 Value.none else pl)).toArray }:Obj)=to
 have hte:∃ ts,to.data = .fields ts∧3 < ts.size:=⟨_,by rw [← hto],by simp only [List.size_toArray,List.length_append,List.length_cons,List.length_nil];omega⟩
 have htf:to.isFreed=false:=by rw [← hto];rfl
 have he2:(h1.push to).get? x=some oe:=Heap.get?_push_of_some _ he1
 have hTx:h1.objs.size ≠ x:=Nat.ne_of_gt (Heap.lt_size he1)
 refine wpAny_setField he2 hd hsz ?_
 have hd3:=Obj.data_mapFields hd (·.setIfInBounds 1 (Value.ref h1.objs.size))
 have he3:=Heap.get?_update_self (Obj.mapFields (·.setIfInBounds 1 (Value.ref h1.objs.size))) he2 (Obj.isFreed_of_fields hd3)
 have hT3:=(Heap.get?_update_other (h1.push to) (Obj.mapFields (·.setIfInBounds 1 (Value.ref h1.objs.size))) (Ne.symm hTx)).trans (Heap.get?_push_size h1 htf)
 have kp:∀ b o,b ≠ x→h1.get? b=some o→((h1.push to).update x (Obj.mapFields (·.setIfInBounds 1 (Value.ref h1.objs.size)))).get? b=some o:=fun b o hb e =>
  (Heap.get?_update_other _ _ (Ne.symm hb)).trans (Heap.get?_push_of_some _ e)
 have hT0:X.s₀.heap.get? h1.objs.size=none:=by
  cases e:X.s₀.heap.get? h1.objs.size with
  | none=>rfl
  | some o =>
   have h2:=Nat.lt_of_lt_of_le (Heap.lt_size e) I.sz
   rw [s1.1] at h2
   exact absurd h2 (Nat.lt_irrefl _)
 have hTH:H h1.objs.size=none:=by rw [s1.1];exact I.hok.fresh (Nat.le_refl _)
 refine q _ (I.recs t (ch:=[x]) (fun b hb=>?_) (fun b o hb hc e=>?_) fun b o hb e=>?_) ⟨hx0,hxH,_,_,he3,Obj.cls_mapFields _ _,?_,hd3,by simpa using hsz, .inr ⟨h1.objs.size,to,?_⟩⟩
 ·rw [List.mem_singleton.mp hb]
  exact ⟨hx0,hxH,oe,vs,he,hd⟩
 ·exact kp b o (fun z=>hc (by rw [z];exact List.mem_singleton.mpr rfl)) ((s1.2.1 b hb).trans e)
 ·obtain ⟨sl,e1⟩:=s1.2.2 b o e
  exact ⟨sl,kp b _ (fun z=>hne (z ▸ hb)) e1⟩
 ·obtain ⟨c,d,dt,sl⟩:=oe
  cases dt <;> rfl
 ·obtain ⟨ts,d1,d2⟩:=hte
  exact ⟨ts,by simp [hsz],hTx,hT0,hTH,hT3,d1,d2⟩
theorem zob (I:Inv X [] σ H s) (t:Top1 X) {tb:Bool} {Q:Unit→Shared→Prop} (e:ExAt X.s₀.heap s.heap H x cls dx tb)
  (q:∀ h',Inv X [] σ H { s with heap:=h' }→ExAt X.s₀.heap h' H x cls dx true→Q () { s with heap:=h' }):wpAny M X.A (noteFrame (.ref x) X.env) Q E s:=by
 obtain ⟨hx0,hxH,oe,vs,he,rfl,rfl,hd,hsz,tb'⟩:=id e
 unfold noteFrame
 simp only [t.frm]
 rcases tb' with ⟨_,h1⟩ | ⟨T,oT,ts,h1,hTx,hT0,hTH,hT,hdT,h3⟩
 ·refine wpAny_bind (wpAny_field he hd h1 ?_)
  rw [if_neg (by decide)]
  exact zoO I t hx0 hxH he hd hsz q
 ·refine wpAny_bind (wpAny_field he hd h1 ?_)
  rw [if_pos (show (Value.ref T != Value.none)=true from by simp)]
  obtain ⟨v3,hv3⟩ : ∃ v3,ts[3]? = some v3:=⟨ts[3],Array.getElem?_eq_getElem h3⟩
  refine wpAny_bind (wpAny_field hT hdT hv3 ?_)
  by_cases hb:(v3 == rawInt X.env.locals)=true
  ·rw [if_pos hb]
   exact wpAny_pure (q s.heap I ⟨hx0,hxH,oe,vs,he,rfl,rfl,hd,hsz, .inr ⟨T,oT,ts,h1,hTx,hT0,hTH,hT,hdT,h3⟩⟩)
  ·rw [if_neg hb]
   refine wpAny_bind (wpAny_setField hT hdT h3 ?_)
   have oth:∀ b,b ≠ T→(s.heap.update T (Obj.mapFields (·.setIfInBounds 3 Value.none))).get? b=s.heap.get? b:=fun b hb=>Heap.get?_update_other _ _ (Ne.symm hb)
   have hTfr:T ∉ frs X.stack:=ExAt.ztA I hT hdT
   have I1:Inv X [] σ H { s with heap:=s.heap.update T (Obj.mapFields (·.setIfInBounds 3 Value.none)) }:=I.recs t (ch:=[T]) (fun b hb=>by
    rw [List.mem_singleton.mp hb]
    exact ⟨hT0,hTH,oT,ts,hT,hdT⟩) (fun b o _ hc e=>(oth b (fun z=>hc (by rw [z];exact List.mem_singleton.mpr rfl))).trans e) fun b o hb e=>⟨o.slots,(oth b (fun z=>hTfr (z ▸ hb))).trans e⟩
   exact zoO I1 t hx0 hxH ((oth x (Ne.symm hTx)).trans he) hd hsz q
theorem zhP {A:Around} (I:Inv X [] σ H s) (t:Top1 X) {fo:Option Addr} {Q:Unit→Shared→Prop} (e:ExAt X.s₀.heap s.heap H x cls dx true)
  (q:∀ h',Inv X [] σ H { s with heap:=h' }→ExAt X.s₀.heap h' H x cls dx true→Q () { s with heap:=h' }):wpAny M A (setFlight (.ref x) fo) Q E s:=by
 obtain ⟨hx0,hxH,oe,vs,he,rfl,rfl,hd,hsz,tb'⟩:=id e
 rcases tb' with ⟨z,_⟩ | ⟨T,oT,ts,h1,hTx,hT0,hTH,hT,hdT,h3⟩
 ·cases z
 unfold setFlight
 refine wpAny_bind (wpAny_field he hd h1 ?_)
 rw [if_pos (show (Value.ref T != Value.none)=true from by simp)]
 refine wpAny_setField hT hdT h3 ?_
 generalize (fo.elim Value.none fun f=>rawInt f)=fv
 have oth:∀ b,b ≠ T→(s.heap.update T (Obj.mapFields (·.setIfInBounds 3 fv))).get? b=s.heap.get? b:=fun b hb=>Heap.get?_update_other _ _ (Ne.symm hb)
 have hTfr:T ∉ frs X.stack:=ExAt.ztA I hT hdT
 have hd3:=Obj.data_mapFields hdT (·.setIfInBounds 3 fv)
 refine q _ (I.recs t (ch:=[T]) (fun b hb=>?_) (fun b o _ hc e=>(oth b (fun z=>hc (by rw [z];exact List.mem_singleton.mpr rfl))).trans e) fun b o hb e=>⟨o.slots,(oth b (fun z=>hTfr (z ▸ hb))).trans e⟩)
  ⟨hx0,hxH,oe,vs,(oth x (Ne.symm hTx)).trans he,rfl,rfl,hd,hsz, .inr ⟨T,_,_,h1,hTx,hT0,hTH,Heap.get?_update_self _ hT (Obj.isFreed_of_fields hd3),hd3,by simpa using h3⟩⟩
 rw [List.mem_singleton.mp hb]
 exact ⟨hT0,hTH,oT,ts,hT,hdT⟩
end
abbrev WX:=St→Value→Option Addr→Hp→Prop
def XE (X:Cx) (W:WX):Value→Shared→Prop:=fun e s'=>∃ σ H' x cls dx,e = .ref x∧Inv X [] σ H' s'∧ExAt X.s₀.heap s'.heap H' x cls dx false∧W σ cls dx H'
section
variable {X:Cx}
theorem zyL (t:Top1 X) {W:WX}:PassesOwn (model X.prog X.w) X.A X.env (XE X W):=by
 rintro e s' ⟨σ,H',x,cls,dx,rfl,I,ex,w⟩
 unfold notedBy
 refine zob I t ex fun h1 I1 e1=>?_
 unfold cameBackBy
 obtain ⟨hx0,hxH,oe,vs,he,hc,hdx,hd,hsz,tb'⟩:=id e1
 rcases tb' with ⟨z,_⟩ | ⟨T,oT,ts,h1',hTx,hT0,hTH,hT,hdT,h3⟩
 ·cases z
 refine wpAny_bind (wpAny_field he hd h1' ?_)
 rw [if_neg (show ¬ ((Value.ref T == Value.none)=true) from by simp)]
 exact zhP I1 t e1 fun h2 I2 e2=>⟨σ,H',x,cls,dx,rfl,I2,e2.any,w⟩
def CXE (P:Program) (w:World):CXT:=fun outer H s E e s'=>∃ x cls dx H',e = .ref x∧s'.os=s.os∧AllBare s'.gens∧Un (frs outer) [] H H' s.heap s'.heap∧HOk P w H' s'.heap∧ExAt s.heap s'.heap H' x cls dx true∧E cls dx H'
end
end L2
namespace L2
open PySem PySem.Spec PyProof.Rows
structure zgG (X:Cx) (W:WX):Prop where
 top:Top1 X
 ex:X.ex=[]
 to:∀ e s',XE X W e s'→X.xe e s'
 passes:PassesOwn (model X.prog X.w) X.A X.env X.xe
theorem zgG.of {X:Cx} (t:Top1 X) (hx:X.ex=[]) (W:WX):zgG (X.wish (XE X W)) W where
 top:=⟨t.stk,t.frm,t.pn⟩
 ex:=hx
 to:=fun e s' ⟨σ,H',x,cls,dx,a,I,b,c⟩=>⟨σ,H',x,cls,dx,a,I.zeI,b,c⟩
 passes:=zyL t
theorem Inv.zwz {X:Cx} {pins:List (Addr × Obj)} {σ:St} {H:Hp} {s:Shared} (I:Inv X pins σ H s):Inv X [] σ H s:=I.znQ fun p hp=>absurd hp (by simp)
theorem Inv.first {X:Cx} {pins:List (Addr × Obj)} {σ:St} {H:Hp} {s:Shared} (I:Inv X pins σ H s) (hx:X.ex=[]) {b:Addr} (h:s.heap.get? b=none):X.s₀.heap.get? b=none:=by
 cases e:X.s₀.heap.get? b with
 | none=>rfl
 | some o =>
  obtain ⟨o',e'⟩:=I.base.there b o e (by rw [hx];simp)
  rw [h] at e';cases e'
theorem ExAt.first {X:Cx} {pins:List (Addr × Obj)} {σ:St} {H H':Hp} {s:Shared} {h':Heap} {x:Addr} {cls:Value} {dx:Option Addr} {tb:Bool} (I:Inv X pins σ H s) (hx:X.ex=[]) (e:ExAt s.heap h' H' x cls dx tb) :
  ExAt X.s₀.heap h' H' x cls dx tb:=by
 obtain ⟨a,b,oe,vs,c1,c2,c3,c4,c5,c6⟩:=e
 refine ⟨I.first hx a,b,oe,vs,c1,c2,c3,c4,c5,c6.imp id fun ⟨T,oT,ts,d1,d2,d3,d4,d5,d6,d7⟩=>⟨T,oT,ts,d1,d2,I.first hx d3,d4,d5,d6,d7⟩⟩
theorem zc6.at {P:Program} {w:World} {H:Hp} {h:Heap} {a:Addr} {o:HO} (x:zc6 P w H h a o):∃ ob,h.get? a=some ob:=by
 cases o with
 | lst xs=>obtain ⟨_,_,_,_,e⟩:=x;exact ⟨_,e⟩
 | tup xs=>obtain ⟨_,_,_,_,e,_⟩:=x;exact ⟨_,e⟩
 | dK kvs=>obtain ⟨_,_,_,_,o,_,_,e,_⟩:=x;exact ⟨_,e⟩
 | dT kvs=>obtain ⟨_,_,_,_,o,_,_,e,_⟩:=x;exact ⟨_,e⟩
 | set S n=>obtain ⟨o,_,_,_,e,_⟩:=x;exact ⟨_,e⟩
 | ins C dx fs=>obtain ⟨_,_,_,e,_⟩:=x;exact ⟨_,e⟩
 | own y=>exact x
 | xd fs=>obtain ⟨_,⟨_,_,_,e,_⟩,_⟩:=x;exact ⟨_,e⟩
 | rng lo hi=>obtain ⟨_,_,_,e⟩:=x;exact ⟨_,e⟩
 | frz ob u=>obtain ⟨e,_⟩:=x;exact ⟨_,e⟩
 | tbl ps=>exact ⟨_,show h.get? a=some _ from x⟩
 | met f y=>exact ⟨_,show h.get? a=some _ from x⟩
 | ext φ=>obtain ⟨_,e,_⟩:=x;exact e
theorem HOk.zw8 {P:Program} {w:World} {H:Hp} {h:Heap} {a:Addr} (x:HOk P w H h) (e:h.get? a=none):H a=none:=by
 cases ea:H a with
 | none=>rfl
 | some o =>
  obtain ⟨ob,e'⟩:=(x a o ea).at
  rw [e] at e';cases e'
section
variable {P:Program} {w:World} {K:PySem.W.Frag} {mg:Str→Option Value} {base:Heap}
abbrev cxX (P:Program) (w:World) (K:PySem.W.Frag) (mg:Str→Option Value) (base:Heap) (N:List Str) (qual:Str) (scope:Scope) (f:Addr) (cd:Value) (A:Around) (outer:List Env) (s:Shared) (H:Hp) (E:XK):Cx :=
 (cxOf (CXE P w) P w K mg base N qual scope f cd A outer s H E).wish (XE (cxOf (CXE P w) P w K mg base N qual scope f cd A outer s H E) fun _=>E)
theorem ziY {CX:CXT} {N:List Str} {qual:Str} {scope:Scope} {f:Addr} {cd:Value} {A:Around} {outer:List Env} {s:Shared} {H:Hp} {E:XK}:Top1 (cxOf CX P w K mg base N qual scope f cd A outer s H E):=⟨rfl,rfl,rfl⟩
theorem zag {N:List Str} {qual:Str} {scope:Scope} {f:Addr} {cd:Value} {A:Around} {outer:List Env} {s:Shared} {H:Hp} {E:XK}:zgG (cxX P w K mg base N qual scope f cd A outer s H E) (fun _=>E):=zgG.of ziY rfl _
theorem zo9 {N:List Str} {qual:Str} {scope:Scope} {f:Addr} {cd:Value} {A:Around} {outer:List Env} {s:Shared} {H:Hp} {E:XK} {st:List Stmt} {t:TS} (h:PSs (cxX P w K mg base N qual scope f cd A outer s H E) st t) :
  PSs (cxOf (CXE P w) P w K mg base N qual scope f cd A outer s H E) st t:=by
 intro pins s1 σ H1 D I hw
 refine wpAny_mono (h pins s1 σ H1 D (I.wish _) hw) (fun _ _ q=>q.zeI) fun e s' hx=>?_
 obtain ⟨σ',H',x,cls,dx,rfl,I',ex,q⟩:=hx
 show wpAny _ _ (leaving _ _) _ _ _
 unfold leaving
 refine wpAny_bind (zob (E:=fun e' s''=>CXE P w outer H s E e' s'') I' ziY ex fun h1 I1 e1=>?_)
 refine zhP I1 ziY e1 fun h2 I2 e2=>?_
 exact ⟨x,cls,dx,H',rfl,I2.os,I2.bare,I2.base,I2.hok,e2,q⟩
structure DefX (P:Program) (w:World) (K:PySem.W.Frag) (mg:Str→Option Value) (base:Heap) (x:Str) (k:Nat) (ps:List Str) (sp:Sp):Prop where
 ex:∃ f fd,FnOk P w K mg base (CXE P w) k f fd ps sp∧mg x=some (.ref f)∧PySem.W.keepIn K (.ref f)=true∧Binds K fd ps []
theorem DefX.of {x:Str} {st:Stmt} {N ps:List Str} {k:Nat} {sp:Sp} (h:HasFn K mg x st) (S:zaq N ps (zac st))
  (bind:∀ (kV doc pm:Value) (an:Option Addr) (cdv ct:Value) (us:List Value),us.length=ps.length→bindArgs (PySem.W.fnOf x x (zar st) (zaj st) (zac st) .none kV doc pm an cdv ct) ⟨us,[]⟩ = pure (ps.zip us))
  (len:∀ vs H Q E,sp vs H Q E→vs.length=ps.length)
  (hbody:∀ (f:Addr) (cdv:Value) (A:Around) (outer:List Env) (s:Shared) (H:Hp) (vs:List V) (Q:VK) (E:XK),Room k (A.deeper (envOfC x (zac st) s.heap.objs.size f cdv))→sp vs H Q E →
   ∃ t,PSs (cxX P w K mg base N x (zac st) f cdv A outer s H E) (zaj st) t∧t { nx:=fun _ H'=>Q .non H',rt:=Q } (start N vs) H):DefX P w K mg base x (k + 1) ps sp:=by
 obtain ⟨f,fd,hm,F⟩:=h.ex
 refine ⟨f,fd,?_,hm,F.kp,F.binds bind⟩
 obtain ⟨oc,od,kV,doc,pm,an,cdv,ct,osl,rfl,lk,hcd⟩:=F.ex
 refine zrb lk hcd S len fun A outer s H vs Q E hr hsp=>?_
 obtain ⟨t,h,q⟩:=hbody f cdv A outer s H vs Q E hr hsp
 exact ⟨t,zo9 h,q⟩
end
section
variable {X:Cx} {W:WX} {x:Str} {p pos np cpos:Pos} {e:Expr} {es:List Expr} {t:TA}
def zys (sp:Sp) (W:WX) (t:TA):TE:=fun σ H Q=>t σ H fun vs H1=>sp vs H1 Q fun cls dx H'=>W σ cls dx H'
theorem zxc {k:Nat} {ps:List Str} {sp:Sp} (T:zgG X W) (D:DefX X.prog X.w X.K X.mg X.base x k ps sp) (hr:Room k X.A) (hg:Gl X x) (ha:PA X (e :: es) t)
  (hdb:(x == ("__debug__" : Str))=false:=by decide) (he:starEach (e :: es) X.env=(false,eval e X.env) :: starEach es X.env:=by rfl) (hpl:(backTo pos (starEach es X.env)).any (·.1)=false:=by rfl) :
  PE X (.Call (.Name x p) (e :: es) [] pos) (zys sp W t):=by
 obtain ⟨f,fd,F,hm,hk,hb⟩:=D.ex
 intro pins s σ H Q I h
 refine wpAny_Call_Name_kw (zh3 I hg hm ?_ hdb)
 refine PySem.W.callWith_K (h₀:=X.base) I.ok.mod.kin hk (thn (ha pos pins s σ H _ I h) fun us s1 ⟨vs,H1,I1,r,q⟩=>⟨I1.kIn,?_⟩) he hpl
 have hl:us.length=ps.length:=by rw [← r.length];exact F.len _ _ _ _ q
 have hb':=hb s1 us I1.kIn (by rw [List.append_nil];exact hl)
 rw [List.append_nil] at hb'
 refine wpAny_call (codeAny_mono (F.run X.A X.stack s1 H1 ⟨us,[]⟩ us vs Q _ hr I1.env0 hb' r q) fun r s' hq=>?_)
 cases r with
 | error ev =>
  obtain ⟨a,cls,dx,H',rfl,os,bare,un,hok,ex,q'⟩:=hq
  have I2:=(I1.zxa os un hok bare (fun b z=>absurd z (by simp))).zwz
  exact T.to _ _ ⟨σ,H',a,cls,dx,rfl,I2,(ex.first I1 T.ex).any,q'⟩
 | ok fl =>
  cases fl with
  | ret u=>exact I1.after hq
  | next=>exact False.elim hq
  | brk=>exact False.elim hq
  | cont=>exact False.elim hq
abbrev bmVE:List Value:=[.type "ValueError", .type "Exception", .type "BaseException", .type "object"]
structure OwnE (K:PySem.W.Frag) (C:Addr):Prop where
 inK:PySem.W.excIn K C bmVE "ValueError.__new__" = true
theorem OwnE.obj {K:PySem.W.Frag} {C:Addr} (O:OwnE K C) {h:Heap} (X:K.In h):∃ bm N nm q bs hdct sn sub ab col dd k0 k1 k2 k3 k5 mN,h.get? C=some (excClassObj nm q C N bs bm hdct sn sub ab col dd k0 k1 k2 k3 k5 "ValueError.__new__")∧h.Ns N mN∧mN "__init__" = none∧OwnTail h bmVE bm:=by
 have q:=O.inK
 unfold PySem.W.excIn at q
 split at q
 ·rename_i dd cd sl ho
  split at q
  ·rename_i C' bm k0 k1 k2 k3 n k5 hm hs
   simp only [Bool.and_eq_true,beq_iff_eq,Bool.not_eq_true'] at q
   obtain ⟨⟨⟨⟨⟨rfl,rfl⟩,hdel⟩,ht⟩,hok⟩,hni⟩:=q
   obtain ⟨nm,bs,mro,ns,qn,hd,sn,sub,ab,col,del⟩:=cd
   dsimp only at hm hdel hok hni
   subst hm hdel
   have hsl:sl = #[k0,k1,k2,k3,some (.builtin "ValueError.__new__"),k5]:=by
    obtain ⟨l⟩:=sl
    simp only at hs
    rw [hs]
   subst hsl
   exact ⟨bm,ns,nm,qn,bs,hd,sn,sub,ab,col,dd,k0,k1,k2,k3,k5,_,X _ _ ho, .of_isNs (PySem.W.isNs_of_in X hok),PySem.W.nsMap_none_of_in X hok hni,PySem.W.tail_of_in X ht⟩
  ·cases q
 ·cases q
def zx7 (W:WX) (C:Addr) (t:TA):TS:=fun _ σ H=>t σ H fun vs H1=>vs.length ≤ sizeLine∧W σ (.ref C) none H1
theorem zum {C:Addr} (T:zgG X W) (hc:X.calm=true) (O:OwnE X.K C) (hg:Gl X x) (hm:X.mg x=some (.ref C)) (ha:PA X (e :: es) t)
  (hdb:(x == ("__debug__" : Str))=false:=by decide) (he:starEach (e :: es) X.env=(false,eval e X.env) :: starEach es X.env:=by rfl) (hpl:(backTo cpos (starEach (e :: es) X.env)).any (·.1)=false:=by rfl) :
  PS X (.Raise (some (.Call (.Name x np) (e :: es) [] cpos)) none pos) (zx7 W C t):=by
 intro pins s σ H D I h
 obtain ⟨bm,N,nm,q,bs,hdct,sn,sub,ab,col,dd,k0,k1,k2,k3,k5,mN,hC,hN,hni,hT⟩:=O.obj I.ok.mod.kin
 have hbase:bm.contains (.type "BaseException")=true:=hT.hasType (by decide)
 refine wpAny_Raise_call_subT (nm:=nm) (q:=q) (N:=N) (bs:=bs) (hdct:=hdct) (sn:=sn) (sub:=sub) (ab:=ab) (col:=col) (dd:=dd) (k0:=k0) (k1:=k1) (k2:=k2) (k3:=k3) (k5:=k5) PySem.F.excBase_ValueError hbase (I.ok.hd hc) hpl hni (zh3 I hg hm ⟨rfl,?_⟩ hdb)
 rw [he]
 refine Calls.evalArgs_plain ?_
 have ha':=ha cpos pins s σ H _ I h
 rw [he] at ha'
 refine thn ha' fun us s1 ⟨vs,H1,I1,r,hz,q1⟩=>⟨rfl,by rw [← r.length];exact hz,I1.bk _ _ hC,hN.keeps I1.bk,hT.keeps I1.bk,fun h' a M=>?_⟩
 obtain ⟨tt,ht,htn,_⟩:=M.there
 have hH:H1 a=none:=I1.hok.zw8 M.new
 refine T.to _ _ ⟨σ,H1,a, .ref C,none,rfl,(I1.kept (t':=s1.toks) M.keeps).zwz,⟨I1.first T.ex M.new,hH,_,_,ht,rfl,rfl,rfl,by simp, .inl ⟨rfl,rfl⟩⟩,q1⟩
end
end L2
namespace L2
open PySem PySem.Spec PyProof.Rows
structure XC (K:PySem.W.Frag) (C:Addr):Prop where
 ob:∃ nm q N bs bm hdct sn sub ab col dd k0 k1 k2 k3 k5,K.lookup C=some (excClassObj nm q C N bs bm hdct sn sub ab col dd k0 k1 k2 k3 k5 "ValueError.__new__")
 ga:PySem.W.findIn K (.ref C) "__getattribute__" = some (some (.builtin "BaseException.__getattribute__"))
 gt:PySem.W.findIn K (.ref C) "__getattr__" = some none
 cl:PySem.W.findIn K (.ref C) "__class__" = some (some (.builtin "object.__class__"))
 be:PySem.W.subIn K (.ref C) (.type "BaseException")=some true
 oj:PySem.W.subIn K (.ref C) (.type "object")=some true
section
variable {prog:Program} {w:World} {A:Around} {E:Value→Shared→Prop} {h:Heap} {g:Array GenState} {d:Drawn} {t:Nat} {os:OsState} {a:Addr} {o:Obj} {K:PySem.W.Frag} {C:Addr}
theorem zy1 {R:Result→Shared→Prop} (c:XC K C) (X:K.In h) (hx:h.get? a=some o) (hc:o.cls = .ref C) (hq:R (.ok (.ret (.ref C))) ⟨h,g,d,t,os⟩) :
  codeAny (model prog w) A (.call (.builtin "getset_descriptor.__get__") ⟨[.builtin "object.__class__", .ref a, .ref C],[]⟩) R ⟨h,g,d,t,os⟩:=by
 have hT5:(⟨h,g,d,t,os⟩ : Shared).TypeIs (.builtin "object.__class__") "getset_descriptor":=F.typeOf_object_class
 have L:PySem.W.Looks (model prog w) h (isSubtype (.ref C) (.type (".".intercalate ("object.__class__".cutAt '.').dropLast))) true:=by
  rw [F.owner_object_class]
  exact PySem.W.looks_subIn X c.oj
 refine codeAny_call_builtin F.slot_gs_get.plain F.entry_gs_get (F.slot_gs_get.check _ _ _ _ _ _ _ _ hT5 (F.args_gs_get _ _ _) ?_)
 repeat (any_goals (first | assumption | (with_reducible refine wpAny_loadPart_at hx ?_;rw [hc]) | with_reducible refine L.at ?_ | wp_step))
 refine ⟨Code.quiet_builtin _ (by decide +kernel),codeAny_builtin F.entry_object_class ?_⟩
 repeat (any_goals (first | assumption | (with_reducible refine wpAny_loadPart_at hx ?_;rw [hc]) | wp_step))
theorem zs9 {tk:Tok} {Q:Fin→Shared→Prop} (c:XC K C) (X:K.In h) (hx:h.get? a=some o) (hc:o.cls = .ref C) (hq:Q (.done (.ret (.ref C))) ⟨h,g,d,t,os⟩) :
  wpAny (model prog w) A (Builtin.«object.__getattribute__» ⟨[.ref a, .str "__class__" tk],[]⟩) Q E ⟨h,g,d,t,os⟩:=by
 have hT5:(⟨h,g,d,t,os⟩ : Shared).TypeIs (.builtin "object.__class__") "getset_descriptor":=F.typeOf_object_class
 have f5:=F.typeOf_object_class
 have f6:=F.slot_gs_get.lookup
 have f7:=F.slot_gs_set.lookup
 have L1:=PySem.W.looks_findIn (M:=model prog w) X c.cl
 repeat (any_goals (first | assumption | (with_reducible refine wpAny_loadPart_at hx ?_;rw [hc]) | with_reducible refine L1.at ?_ | wp_step))
 refine zy1 c X hx hc ?_
 repeat (any_goals (first | assumption | wp_step))
theorem ztn {M:Model} {nameV:Value} {Q:Unit→Shared→Prop} (c:XC K C) (X:K.In h) (hx:h.get? a=some o) (hc:o.cls = .ref C) (hq:Q () ⟨h,g,d,t,os⟩) :
  wpAny M A (checkBuiltinCall "BaseException.__getattribute__" ⟨[.ref a,nameV],[]⟩) Q E ⟨h,g,d,t,os⟩:=by
 have L:PySem.W.Looks M h (isInstance (.ref a) (.type "BaseException")) true:=by
  refine PySem.W.Looks.andThen (a := .ref C) ?_ (PySem.W.looks_subIn X c.be)
  rw [← hc]
  exact (PySem.W.Looks.ld hx).andThen .now
 have hk:builtinKind "BaseException.__getattribute__" = some .slot:=by decide +kernel
 have hs:splitId "BaseException.__getattribute__" = some ("BaseException", "__getattribute__"):=by decide +kernel
 have ha:=F.args_bexc_ga (.ref a) nameV
 exact PySem.W.check_slot (i := "BaseException.__getattribute__") (owner := "BaseException") (n := "__getattribute__") (self := .ref a) (rest:=[nameV]) (kw:=[]) (s:=⟨h,g,d,t,os⟩) hk hs L ha hq
theorem zzu {tk:Tok} {fill expr:Bool} {Q:Value→Shared→Prop} (c:XC K C) (X:K.In h) (hx:h.get? a=some o) (hc:o.cls = .ref C) (hq:Q (.ref C) ⟨h,g,d,t,os⟩) :
  wpAny (model prog w) A (getAttrBy (.ref a) (.str "__class__" tk) fill expr) Q E ⟨h,g,d,t,os⟩:=by
 have f3:=PySem.F.excAttr_ValueError.ga.bind (.ref a)
 have hx0:(expr && onTheHeap (Value.builtin "BaseException.__getattribute__"))=false:=by cases expr <;> rfl
 have hx2:(Value.builtin "BaseException.__getattribute__" == Value.builtin "object.__getattribute__")=false:=by decide +kernel
 have hx1:(onTheHeap (Value.ref C) && Value.builtin "BaseException.__getattribute__" == Value.builtin "object.__getattribute__")=false:=by rw [hx2];rfl
 have L1:=PySem.W.looks_findIn (M:=model prog w) X c.ga
 have L2:=PySem.W.looks_findIn (M:=model prog w) X c.gt
 repeat (any_goals (first | assumption | (with_reducible refine wpAny_loadPart_at hx ?_;rw [hc]) | with_reducible refine L1.at ?_ | with_reducible refine L2.at ?_ | wp_step))
 refine codeAny_call_builtin PySem.F.excAttr_ValueError.ga.plain F.entry_bexc_ga (ztn c X hx hc (zs9 c X hx hc ?_))
 repeat (any_goals (first | assumption | wp_step))
theorem zvW {Q:Option Value→Shared→Prop} (c:XC K C) (X:K.In h) (hx:h.get? a=some o) (hc:o.cls = .ref C) (hq:Q (some (.ref C)) ⟨h,g,d,t + 1,os⟩) :
  wpAny (model prog w) A (getAttr? (.ref a) "__class__") Q E ⟨h,g,d,t,os⟩:=by
 unfold getAttr? getAttrBy?
 repeat (any_goals (first | assumption | with_reducible apply zzu c X hx hc | wp_step))
end
end L2
namespace L2
open PySem PySem.Spec PyProof.Rows
section
variable {K:PySem.W.Frag} {C D x:Addr} {oe:Obj} {b:Bool}
theorem XC.get (c:XC K C):∃ cd,PySem.W.clsIn K C=some cd∧cd.mro.isEmpty=false∧cd.mro.contains (.ref C)=true∧PySem.W.typeIn K (.ref C)=some (.type "type"):=by
 obtain ⟨nm,q,N,bs,bm,hdct,sn,sub,ab,col,dd,k0,k1,k2,k3,k5,e⟩:=c.ob
 refine ⟨{ name:=nm,bases:=bs,mro := .ref C :: bm,ns:=N,qualname:=q,hasDict:=hdct,slotNames:=sn,subclasses:=sub,abstract:=ab,collection:=col,hasDel:=false },?_,rfl,?_,?_⟩
 ·unfold PySem.W.clsIn
  rw [e]
 ·simp
 ·show (K.lookup C).map (·.cls)=_
  rw [e]
  rfl
theorem XC.isType (c:XC K C) {M:Model} {h:Heap} (X:K.In h):PySem.W.Looks M h (PySem.isType (.ref C)) true:=by
 obtain ⟨nm,q,N,bs,bm,hdct,sn,sub,ab,col,dd,k0,k1,k2,k3,k5,e⟩:=c.ob
 intro A' Q' E' s' k q
 unfold PySem.isType loadHead
 exact wpAny_bind (wpAny_loadPart (k _ _ (X _ _ e)) (wpAny_pure q))
theorem zts (c:XC K D) (hc:oe.cls = .ref D):PySem.W.KitX K (.ref x) (.ref D) (fun h=>h.get? x=some oe) where
 ty:=fun M h _ p=>hc ▸ (PySem.W.Looks.ld p).andThen .now
 it:=fun _ _ X _=>c.isType X
 ne:=fun h tp dd its n sl X htp=>by
  obtain ⟨nm,q,N,bs,bm,hdct,sn,sub,ab,col,dd,k0,k1,k2,k3,k5,e⟩:=c.ob
  refine Bool.eq_false_iff.mpr fun q=>?_
  have e':D=tp:=Value.ref.inj (beq_iff_eq.mp q)
  subst e'
  have z:=Option.some.inj ((X _ _ e).symm.trans htp)
  have z':=congrArg Obj.data z
  cases z'
 ca:=fun {_ _ _ _ _ s} X p k=>by obtain ⟨h,g,d,t,os⟩:=s;exact zvW c X p hc k
theorem zvi (cD:XC K D) (cC:XC K C) (s:PySem.W.subIn K (.ref D) (.ref C)=some b):PySem.W.kitOne K (.ref D) (.ref C)=some b:=by
 unfold PySem.W.kitOne
 split
 ·rename_i q
  have e:D=C:=Value.ref.inj (beq_iff_eq.mp q)
  subst e
  obtain ⟨cd,h1,h2,h3,_⟩:=cD.get
  change PySem.W.mroIn K D (.ref D)=some b at s
  unfold PySem.W.mroIn at s
  rw [h1] at s
  simp only [Option.bind_some,h2,h3] at s
  simpa using s
 ·obtain ⟨cd,h1,_,_,h4⟩:=cC.get
  unfold PySem.W.kitCls
  simp only [h1,h4]
  exact s
theorem zui {T:String} (s:PySem.W.subIn K (.ref D) (.type T)=some b) (hT:PySem.W.kitMeta T=true):PySem.W.kitOne K (.ref D) (.type T)=some b:=by
 unfold PySem.W.kitOne
 rw [if_neg (by simp)]
 unfold PySem.W.kitCls
 simp only [hT]
 exact s
theorem zpT:PySem.W.kitMeta "ValueError" = true:=by kernel_rfl
end
def Cx.zc8 (X:Cx) (x:Addr) (oe:Obj):Cx:={ X with A:=X.A.mark (some (.ref x)),calm:=false,pn:=X.pn ++ [(x,oe)],xe:=fun _ _=>False }
theorem Cx.Ok.zc8 {X:Cx} (ok:X.Ok) (x:Addr) (oe:Obj):(X.zc8 x oe).Ok :=
 ⟨ok.mod,ok.kind,ok.glob,ok.blt,ok.above,ok.inj,ok.has,ok.cab,fun h=>Bool.noConfusion h,ok.frames,ok.stk,ok.exf,ok.bs,ok.bsz,ok.noex,ok.exfs,ok.funs,ok.frf⟩
section
variable {X:Cx} {σ:St} {H:Hp} {s:Shared} {x:Addr} {oe:Obj}
theorem Inv.zc8 (I:Inv X [] σ H s) (p:s.heap.get? x=some oe∧H x=none∧x ≠ X.env.locals∧x ∉ X.fs∧∀ v,oe.data ≠ .cell v):Inv (X.zc8 x oe) [] σ H s :=
 ⟨I.ok.zc8 x oe,I.os,I.bare,I.base,I.loc,I.cell,I.free,I.freeC,fun q hq=>by
  have hq:q ∈ (X.pn ++ [(x,oe)]) ++ []:=hq
  rw [List.append_nil] at hq
  rcases List.mem_append.mp hq with z | z
  ·exact I.pin q (List.mem_append_left _ z)
  ·rw [List.mem_singleton.mp z];exact p,I.hok,I.len⟩
theorem Inv.uncaught (ok:X.Ok) (I:Inv (X.zc8 x oe) [] σ H s):Inv X [] σ H s :=
 ⟨ok,I.os,I.bare,I.base,I.loc,I.cell,I.free,I.freeC,fun q hq=>I.pin q (by
  rw [List.append_nil] at hq ⊢
  exact List.mem_append_left _ hq),I.hok,I.len⟩
theorem ExAt.pin {cls:Value} {dx:Option Addr} {tb:Bool} (I:Inv X [] σ H s) (t:Top1 X) (e:ExAt X.s₀.heap s.heap H x cls dx tb):∃ oe vs,oe.cls=cls∧oe.dict=dx∧oe.data = .fields vs∧s.heap.get? x=some oe∧H x=none∧x ≠ X.env.locals∧x ∉ X.fs∧∀ v,oe.data ≠ .cell v:=by
 obtain ⟨_,hxH,oe,vs,he,hc,hdx,hd,_⟩:=e
 have nf:=ExAt.ztA I he hd
 exact ⟨oe,vs,hc,hdx,hd,he,hxH,fun z=>nf (t.mem.mpr (.inl z)),fun z=>nf (t.mem.mpr (.inr z)),fun v z=>by rw [hd] at z;cases z⟩
def rIsX (K:PySem.W.Frag) (x:Addr) (cls:Value):List V→Hp→VK→Prop:=fun xs H Q=>∃ D,cls = .ref D∧XC K D ∧
 ((∃ C b,xs=[.ref x, .ref C]∧PySem.W.kitOne K cls (.ref C)=some b∧Q (.bl b) H)∨(∃ T b,xs=[.ref x, .ty T]∧PySem.W.kitOne K cls (.type T)=some b∧Q (.bl b) H) ∨
  ∃ (p:Addr) (cs:List Addr) (b:Bool),xs=[.ref x, .ref p]∧H p=some (.tup (cs.map V.ref))∧PySem.W.kitAny K cls (cs.map Value.ref)=some b∧Q (.bl b) H)
theorem zmI:∀ {cs:List Addr} {us:List Value},Vals (cs.map V.ref) us→us=cs.map Value.ref
 | [],_, .nil=>rfl
 | _ :: _,_, .cons r t=>by rw [List.map_cons,← zmI t];congr
theorem ztJ (hp:(x,oe) ∈ X.pn):zhD X (.builtin "isinstance") (rIsX X.K x oe.cls):=by
 intro pins s σ H xs us Q I r h
 obtain ⟨D,hc,c,h⟩:=h
 have he:=(I.pin _ (List.mem_append_left _ hp)).1
 have Z:=zts (x:=x) c hc
 rw [hc] at h
 rcases h with ⟨C,b,rfl,e,q⟩ | ⟨T,b,rfl,e,q⟩ | ⟨p,cs,b,rfl,hpt,e,q⟩
 ·obtain ⟨u,v,rfl,ru,rv⟩:=vals2 r
  obtain rfl:u = .ref x:=ru
  obtain rfl:v = .ref C:=rv
  exact PySem.W.kia_one Z I.kIn he e (by intro z;cases z) fun tk=>⟨.bl b,H,I.tok tk,rfl,q⟩
 ·obtain ⟨u,v,rfl,ru,rv⟩:=vals2 r
  obtain rfl:u = .ref x:=ru
  obtain rfl:v = .type T:=rv
  exact PySem.W.kia_one Z I.kIn he e (by intro z;cases z) fun tk=>⟨.bl b,H,I.tok tk,rfl,q⟩
 ·obtain ⟨u,v,rfl,ru,rv⟩:=vals2 r
  obtain rfl:u = .ref x:=ru
  obtain rfl:v = .ref p:=rv
  obtain ⟨_,its,vi,⟨o,ho,hcl,n,hdt⟩⟩:=I.hok p _ hpt
  obtain ⟨oc,od,odt,osl⟩:=o
  simp only at hcl hdt
  subst hcl hdt
  rw [zmI vi] at ho
  exact PySem.W.kia_tup Z I.kIn he ho e (by intro z;cases z) fun tk=>⟨.bl b,H,I.tok tk,rfl,q⟩
end
section
variable {M:Model} {A:Around} {E:Value→Shared→Prop} {h:Heap} {g:Array GenState} {d:Drawn} {t:Nat} {os:OsState} {e:Addr} {oe:Obj} {K:PySem.W.Frag} {C D:Addr} {b:Bool}
theorem zyz {Q:Bool→Shared→Prop} (cC:XC K C) (X:K.In h) (he:h.get? e=some oe) (hc:oe.cls = .ref D) (sb:PySem.W.subIn K (.ref D) (.ref C)=some b) (hq:Q b ⟨h,g,d,t,os⟩) :
  wpAny M A (excMatches (.ref e) (.ref C)) Q E ⟨h,g,d,t,os⟩:=by
 obtain ⟨nm,q,N,bs,bm,hdct,sn,sub,ab,col,dd,k0,k1,k2,k3,k5,hC0⟩:=cC.ob
 have hC:=X _ _ hC0
 have L:=PySem.W.looks_subIn (M:=M) X sb
 have LB:=PySem.W.looks_subIn (M:=M) X cC.be
 have f:=tc_notTuple
 unfold excMatches
 repeat (first | (with_reducible refine wpAny_loadPart_at he ?_;rw [hc]) | with_reducible refine wpAny_loadPart_at hC ?_ | with_reducible refine LB.at ?_ | with_reducible refine L.at ?_ | wp_step)
 cases b <;> (wp_walk;exact hq)
end
theorem zlI {X:Cx} {M:Model} {A:Around} {E:Value→Shared→Prop} {σ:St} {H:Hp} {s:Shared} {i:Nat} {n:Str} {pos:Pos} {Q:Unit→Shared→Prop} (I:Inv X [] σ H s) (hN:X.N.Nodup) (hi:X.N[i]? = some n) (hl:X.env.scope.names.lookup n=some .local)
  (h:∀ s',Inv X [] (σ.set i none) H s'→Q () s'):wpAny M A (do bindName X.env n .none;unbindBehindTheSuite X.env n pos) Q E s:=by
 refine wpAny_bind (wpAny_bindName (ziX (v := .non) I hN hi (.inl hl) rfl (fun s1 I1=>?_) (.inr hl)))
 unfold unbindBehindTheSuite
 refine wpAny_onRaise ?_
 have hcls:(X.env.scope.kind == .class || (X.env.scope.kind == .module && X.env.locals != X.env.globals))=false:=by rw [I.ok.kind];rfl
 obtain ⟨m,hn,hlo⟩:=id I1.loc
 have hiσ:i < σ.length:=by rw [I.len];exact (List.getElem?_eq_some_iff.mp hi).1
 have hv:m n=some .none:=by
  obtain ⟨u,ru,l⟩:=hlo i n .non hi (by rw [List.getElem?_set_self hiσ]) (.inl hl)
  obtain rfl:u=Value.none:=ru
  rcases l with ⟨_,l⟩ | ⟨k,_⟩
  ·exact l
  ·have hl':X.env.kindOf n=some .local:=hl
   rcases k with k | k <;> (rw [hl'] at k;cases k)
 refine wpAny_unbindName_local hl hn hv hcls fun h' u hn' hs=>?_
 have cne:=I1.cne
 obtain ⟨oL,_,_,hoL,_⟩:=id hn
 refine h _ ⟨I1.ok,I1.os,I1.bare,⟨fun b o e nn hb hx=>?_,fun b o e nn hb hx=>?_,I1.base.free,fun b o e hx=>?_,I1.base.tups,I1.base.frzs,I1.base.tbls⟩,⟨_,hn',fun j y v' e1 e2 e3=>?_⟩,fun y c e=>?_,I1.free,I1.freeC,fun p hp=>?_,fun b ob e=>?_,by simpa using I.len⟩
 ·exact (hs.2 b (Nat.ne_of_lt (Nat.lt_of_lt_of_le (Heap.lt_size e) I1.ok.above))).trans (I1.base.keep b o e nn hb hx)
 ·obtain ⟨sl,e1⟩:=I1.base.slot b o e nn hb hx
  exact ⟨sl,(hs.2 b (Nat.ne_of_lt (Nat.lt_of_lt_of_le (Heap.lt_size e) I1.ok.above))).trans e1⟩
 ·obtain ⟨o',e1⟩:=I1.base.there b o e hx
  exact ⟨o',(hs.2 b (Nat.ne_of_lt (Nat.lt_of_lt_of_le (Heap.lt_size e) I1.ok.above))).trans e1⟩
 ·have hj:j ≠ i:=fun z=>by
   subst z
   rw [List.getElem?_set_self hiσ] at e2
   cases e2
  rw [List.getElem?_set_ne (Ne.symm hj)] at e2
  obtain ⟨u',r',q⟩:=hlo j y v' e1 (by rw [List.getElem?_set_ne (Ne.symm hj)];exact e2) e3
  refine ⟨u',r',?_⟩
  rcases q with ⟨k,e⟩ | ⟨k,c,e,z⟩
  ·refine .inl ⟨k,?_⟩
   have:y ≠ n:=fun e=>hj (zlu hN e1 (e ▸ hi))
   simp [this,e]
  ·exact .inr ⟨k,c,e,z.sameBut hs (cne y c e)⟩
 ·obtain ⟨w',z⟩:=I1.cell y c e
  exact ⟨w',z.sameBut hs (cne y c e)⟩
 ·obtain ⟨e,nn,ne,nf,d⟩:=I1.pin p hp
  exact ⟨(hs.2 p.1 ne).trans e,nn,ne,nf,d⟩
 ·refine (I1.hok b ob e).stay (fun c w' hc q=>(hs.2 c ?_).trans q) (fun _ q=>q) fun _ _ q=>q
  rintro rfl
  have hfree:=I1.free
  rcases hc with rfl | hc
  ·rw [hfree] at e;cases e
  ·rw [hfree] at hc;cases hc
def PS0 (X:Cx) (st:Stmt) (t:TS):Prop:=∀ (s:Shared) (σ:St) (H:Hp) (D:Ends),Inv X [] σ H s→t D σ H→wpAny (model X.prog X.w) X.A (exec st X.env) (SP X [] D) X.xe s
def PSs0 (X:Cx) (st:List Stmt) (t:TS):Prop:=∀ (s:Shared) (σ:St) (H:Hp) (D:Ends),Inv X [] σ H s→t D σ H→wpAny (model X.prog X.w) X.A (execs st X.env) (SP X [] D) X.xe s
theorem PS.ps0 {X:Cx} {st:Stmt} {t:TS} (h:PS X st t):PS0 X st t:=h []
theorem PSs.ps0 {X:Cx} {st:List Stmt} {t:TS} (h:PSs X st t):PSs0 X st t:=h []
theorem zsK {X:Cx} {st:Stmt} {rest:List Stmt} {t u:TS} (h1:PS0 X st t) (h2:PSs0 X rest u):PSs0 X (st :: rest) (tSeq t u):=by
 intro s σ H D I h
 refine wpAny_execs_cons (thn (h1 s σ H { D with nx:=u D } I h) fun f s1 q=>?_)
 cases f with
 | next =>
  obtain ⟨σ',H',I',q⟩:=q
  exact h2 s1 σ' H' D I' q
 | brk=>exact q
 | cont=>exact q
 | ret u=>exact q
end L2
namespace L2
open PySem PySem.Spec PyProof.Rows
abbrev TH:=Addr→Value→Option Addr→TS
def PH (X:Cx) (hs:List ExceptHandler) (th:TH):Prop:=∀ (s:Shared) (σ:St) (H:Hp) (D:Ends) (x:Addr) (cls:Value) (dx:Option Addr),Inv X [] σ H s→ExAt X.s₀.heap s.heap H x cls dx true→th x cls dx D σ H →
 wpAny (model X.prog X.w) X.A (handleBy (.ref x) X.env hs) (SP X [] D) X.xe s
def tNoH:TH:=fun _ _ _ _ _ _=>False
theorem zyE {X:Cx}:PH X [] tNoH:=fun _ _ _ _ _ _ _ _ _ h=>h.elim
def Ends.drop (D:Ends) (i:Nat):Ends:=⟨fun σ H=>D.nx (σ.set i none) H,D.rt,fun σ H=>D.bk (σ.set i none) H,fun σ H=>D.ct (σ.set i none) H⟩
def tH (K:PySem.W.Frag) (C:Addr) (i:Nat) (ts th:TH):TH:=fun x cls dx D σ H=>∃ E b,cls = .ref E∧PySem.W.subIn K (.ref E) (.ref C)=some b ∧
 if b=true then ts x cls dx (D.drop i) (σ.set i (some (.ref x))) H else th x cls dx D σ H
section
variable {X:Cx} {C:Addr} {i:Nat} {n y:Str} {np pos:Pos} {b₀:Stmt} {suite:List Stmt} {rest:List ExceptHandler} {ts th:TH}
theorem zzZ (t:Top1 X) (c:XC X.K C) (hg:Gl X y) (hm:X.mg y=some (.ref C)) (hN:X.N.Nodup) (hi:X.N[i]? = some n) (hl:X.env.scope.names.lookup n=some .local) (hs:∀ x oe,PSs (X.zc8 x oe) (b₀ :: suite) (ts x oe.cls oe.dict)) (hr:PH X rest th)
  (hdb:(y == ("__debug__" : Str))=false:=by decide):PH X (.ExceptHandler (some (.Name y np)) (some n) (b₀ :: suite) pos :: rest) (tH X.K C i ts th):=by
 intro s σ H D x cls dx I ex h
 obtain ⟨E,b,rfl,sb,h⟩:=h
 obtain ⟨oe,vs,hc,hdx,hd,he,hp⟩:=ex.pin I t
 have Ic:=I.zc8 (x:=x) (oe:=oe) ⟨he,hp⟩
 refine wpAny_handleBy_cons (codeAny_handlers_test (zh3 (X:=X.zc8 x oe) (s:=s) Ic hg hm ?_ hdb)) (by intro q;cases q)
 obtain ⟨hh,g,d,tk,os⟩:=s
 refine zyz c I.kIn he hc sb ?_
 cases b with
 | false =>
  exact hr _ σ H D x _ dx I ex (by simpa using h)
 | true =>
  rw [if_pos rfl] at h
  refine codeAny_handlers_suite_as (zhP I t ex fun h1 I1 ex1=>?_)
  obtain ⟨oe1,vs1,hc1,hdx1,hd1,he1,hp1⟩:=ex1.pin I1 t
  have Ic1:=I1.zc8 (x:=x) (oe:=oe1) ⟨he1,hp1⟩
  refine ziX (X:=X.zc8 x oe1) (v := .ref x) Ic1 hN hi (.inl hl) rfl (fun s2 I2=>?_) (.inr hl)
  rw [← hc1,← hdx1] at h
  refine wpAny_mono (hs x oe1 [] s2 (σ.set i (some (.ref x))) H (D.drop i) I2 h) (fun f s3 q=>?_) fun _ _ z=>False.elim z
  cases f with
  | next =>
   obtain ⟨σ',H',I',q⟩:=q
   exact zlI (I'.uncaught I.ok) hN hi hl fun s' I''=>⟨_,H',I'',q⟩
  | brk =>
   obtain ⟨σ',H',I',q⟩:=q
   exact zlI (I'.uncaught I.ok) hN hi hl fun s' I''=>⟨_,H',I'',q⟩
  | cont =>
   obtain ⟨σ',H',I',q⟩:=q
   exact zlI (I'.uncaught I.ok) hN hi hl fun s' I''=>⟨_,H',I'',q⟩
  | ret u =>
   obtain ⟨v,σ',H',I',r,q⟩:=q
   exact zlI (I'.uncaught I.ok) hN hi hl fun s' I''=>⟨v,_,H',I'',r,q⟩
def tTry (tb:WX→TS) (th:TH):TS:=fun D σ H=>tb (fun σ' cls dx H'=>∀ x,H' x=none→th x cls dx D σ' H') D σ H
theorem zyf {h0:ExceptHandler} {hs:List ExceptHandler} {body:List Stmt} {tb:WX→TS} (t:Top1 X) (hx:X.ex=[]) (hb:∀ W,PSs0 (X.wish (XE X W)) body (tb W)) (hh:PH X (h0 :: hs) th):PS0 X (.Try body (h0 :: hs) [] [] pos) (tTry tb th):=by
 intro s σ H D I h
 refine wpAny_Try_except (wpAny_mono (hb _ s σ H D (I.wish _) h) (fun f s1 q=>?_) fun e s1 q=>?_)
 ·have q:=q.zeI
  cases f with
  | next =>
   obtain ⟨σ',H',I',q⟩:=q
   exact wpAny_execs_nil ⟨σ',H',I',q⟩
  | brk=>exact q
  | cont=>exact q
  | ret u=>exact q
 ·obtain ⟨σ',H',x,cls,dx,rfl,I',ex,q⟩:=q
  refine zob I' t ex fun h1 I1 e1=>zhP I1 t e1 fun h2 I2 e2=>?_
  exact hh _ σ' H' D x cls dx I2 e2 (q x e2.2.1)
end
section
variable {P:Program} {w:World} {K:PySem.W.Frag} {mg:Str→Option Value} {base:Heap}
theorem zxF {CX:CXT} {k:Nat} {f:Addr} {name qual:Str} {params:Arguments} {body:List Stmt} {scope:Scope} {dV kV doc pm cdv ct oc:Value} {an od:Option Addr}
  {osl:Array (Option Value)} {N ps:List Str} {sp:Sp} (lk:K.lookup f=some ⟨oc,od, .func (PySem.W.fnOf name qual params body scope dV kV doc pm an cdv ct),osl⟩) (hcd:PySem.W.codeIn K cdv qual=true) (S:zaq N ps scope)
  (len:∀ vs H Q E,sp vs H Q E→vs.length=ps.length)
  (hbody:∀ (A:Around) (outer:List Env) (s:Shared) (H:Hp) (vs:List V) (Q:VK) (E:XK),Room k (A.deeper (envOfC qual scope s.heap.objs.size f cdv))→sp vs H Q E →
   ∃ t,PSs0 (cxOf CX P w K mg base N qual scope f cdv A outer s H E) body t∧t { nx:=fun _ H'=>Q .non H',rt:=Q } (start N vs) H) :
  FnOk P w K mg base CX (k + 1) f (PySem.W.fnOf name qual params body scope dV kV doc pm an cdv ct) ps sp:=by
 refine ⟨len,fun A outer s H args us vs Q E hr e0 hb r hsp=>?_⟩
 have hl:=len _ _ _ _ hsp
 have KX:K.In s.heap:=e0.mod.kin.keeps fun b o e=>(e0.bs b o e).1
 have lim:s.heap.NoLimit:=e0.mod.nolimit.keeps fun b o e=>(e0.bs b o e).1
 have hkind:∀ y ∈ ps.zip us,scope.names.lookup y.1=some .local∨(scope.names.lookup y.1=some .cell∧((cellsFrom (s.heap.objs.size + 1) scope.names []).lookup y.1).isSome=true):=fun ⟨n,v⟩ hy=>by
  rcases S.par n (List.of_mem_zip hy).1 with q | q
  ·exact .inl q
  ·exact .inr ⟨q,PySem.W.cellsFrom_some _ _ _ (.inl q)⟩
 refine codeAny_call_function hr.depth (KX _ _ lk) rfl S.co S.gen rfl (PySem.W.codeRec_of KX hcd) (hb _ _ _ _ ?_)
 refine wpAny_newFunctionEnv_cells S.kind hkind fun env he s1 x=>?_
 subst he
 refine ⟨lim.keeps x.toInCall.keep,codeAny_func ?_⟩
 obtain ⟨t,ht,hq⟩:=hbody A outer s H vs Q E (hr.deeper _) hsp
 have I:Inv (cxOf CX P w K mg base N qual scope f cdv A outer s H E) [] (start N vs) H s1:=zj4 S hr.hd e0 hl r x
 refine wpAny_mono (ht s1 (start N vs) H _ I hq) (fun fl s' hs=>?_) fun e s' hs=>hs
 have fin:∀ {σ':St} {H':Hp} {v:V} {u:Value},Inv (cxOf CX P w K mg base N qual scope f cdv A outer s H E) [] σ' H' s'→RelV v u→Q v H'→CE outer P w H s Q u s' :=
  fun {σ' H' v u} J rv q=>⟨v,H',J.os,J.bare,J.base,J.hok,rv,q⟩
 cases fl with
 | ret u =>
  obtain ⟨v,σ',H',J,rv,q⟩:=hs
  exact fin J rv q
 | next =>
  obtain ⟨σ',H',J,q⟩:=hs
  exact fin (v:=V.non) (u:=Value.none) J rfl q
 | brk =>
  obtain ⟨_,_,_,q⟩:=hs
  exact False.elim q
 | cont =>
  obtain ⟨_,_,_,q⟩:=hs
  exact False.elim q
theorem PSs0.nox {X:Cx} {st:List Stmt} {t:TS} (h:PSs0 X.nox st t):PSs0 X st t:=fun s σ H D I hw =>
 wpAny_mono (h s σ H D (I.wish _) hw) (fun _ _ q=>q.zeI) fun _ _ z=>False.elim z
theorem Def.of0 {x:Str} {st:Stmt} {N ps:List Str} {k:Nat} {sp:Sp} (h:HasFn K mg x st) (S:zaq N ps (zac st))
  (bind:∀ (kV doc pm:Value) (an:Option Addr) (cdv ct:Value) (us:List Value),us.length=ps.length→bindArgs (PySem.W.fnOf x x (zar st) (zaj st) (zac st) .none kV doc pm an cdv ct) ⟨us,[]⟩ = pure (ps.zip us))
  (len:∀ vs H Q E,sp vs H Q E→vs.length=ps.length)
  (hbody:∀ (f:Addr) (cdv:Value) (A:Around) (outer:List Env) (s:Shared) (H:Hp) (vs:List V) (Q:VK) (E:XK),Room k (A.deeper (envOfC x (zac st) s.heap.objs.size f cdv))→sp vs H Q E →
   ∃ t,PSs0 (cxOf CX0 P w K mg base N x (zac st) f cdv A outer s H E).nox (zaj st) t∧t { nx:=fun _ H'=>Q .non H',rt:=Q } (start N vs) H):Def P w K mg base x (k + 1) ps sp:=by
 obtain ⟨f,fd,hm,F⟩:=h.ex
 refine ⟨f,fd,?_,hm,F.kp,F.binds bind⟩
 obtain ⟨oc,od,kV,doc,pm,an,cdv,ct,osl,rfl,lk,hcd⟩:=F.ex
 refine zxF lk hcd S len fun A outer s H vs Q E hr hsp=>?_
 obtain ⟨t,h,q⟩:=hbody f cdv A outer s H vs Q E hr hsp
 exact ⟨t,h.nox,q⟩
end
end L2
namespace L2
open PySem PySem.Spec PyProof.Rows
def zxy (scope sc:Scope) (N:List Str) (js:List Nat):Bool :=
 scope.kind == .function && (scope.names.all fun y=>y.2 != .cell && (y.2 != .local || scope.names.lookup y.1 == some .local) && (y.2 != .free || (sc.names.lookup y.1 == some .cell || sc.names.lookup y.1 == some .free))) &&
 js.all fun j=>match N[j]? with
  | some x=>scope.names.lookup x == some .free
  | none=>false
theorem LcOk.of {X:Cx} {scope:Scope} {ls:List Str} {js:List Nat} (sc:Scope) (N:List Str) (hsc:X.env.scope=sc) (hN:X.N=N) (ok:zxy scope sc N js=true):LcOk X scope ls js:=by
 unfold zxy at ok
 rw [Bool.and_eq_true,Bool.and_eq_true] at ok
 obtain ⟨⟨h1,h2⟩,h3⟩:=ok
 rw [List.all_eq_true] at h2 h3
 refine ⟨by simpa using h1,fun y hy=>?_,fun y hy hl=>?_,fun y hy hf=>?_,fun j hj=>?_⟩
 ·have q:=h2 y hy
  rw [Bool.and_eq_true,Bool.and_eq_true] at q
  simpa using q.1.1
 ·have q:=h2 y hy
  rw [Bool.and_eq_true,Bool.and_eq_true] at q
  simpa [hl] using q.1.2
 ·have q:=h2 y hy
  rw [Bool.and_eq_true,Bool.and_eq_true] at q
  have q2:=q.2
  rw [hf] at q2
  unfold Env.kindOf
  rw [hsc]
  simpa using q2
 ·have q:=h3 j hj
  rw [hN]
  cases e:N[j]? with
  | none=>rw [e] at q;cases q
  | some x=>rw [e] at q;exact ⟨x,rfl,by simpa using q⟩
theorem Kept.same {l:Addr} {H H':Hp} (e:Kept l H H') (hl:H l=none):Same H H':=fun b o h=>e b o (zaz h hl) h
end L2
namespace L2
open PySem PySem.Spec PyProof.Rows
end L2
namespace L2
open PySem PySem.Spec PyProof.Rows
section
variable {X:Cx}
theorem zmD (hc:X.calm=true):zhD X (.builtin "sorted") (fun xs H Q=>∃ d kvs ks,xs=[.ref d]∧H d=some (.dK kvs)∧kvs.map (·.1)=ks.map Sum.inl∧ks.length < 64 ∧
  ∀ (ms:List Int) (l:Addr),ms.Perm ks→ms.Pairwise (· ≤ ·)→H l=none→Q (.ref l) (upd H l (.lst (ms.map V.int)))):=by
 intro pins s σ H xs us Q I r h
 obtain ⟨d,kvs,ks,rfl,hd,hk,h64,q⟩:=h
 obtain ⟨u,rfl,ru⟩:=vals1 r
 cases ru
 obtain ⟨z,lo,vs,rel,dd⟩:=zwb I.hok hd
 obtain ⟨ep,hat⟩:=dd.dictAt
 have hlv:vs.length=ks.length:=by
  rw [← rel.length,← List.length_map (f:=(·.1)),hk,List.length_map]
 have hsz:(64:Nat) ≤ sizeLine:=by decide
 refine Calls.call_function_entry kind_sorted plain_sorted entry_sorted (args_sorted1 _) ?_
 unfold Builtin.«sorted»
 refine wpAny_bind (m:=checkCount "sorted" 1 1 _) (wpAny_pure ?_)
 refine wpAny_bind (PySem.W.kdu_collect (A:=X.A.in1) (PySem.W.kdl_dict (knd:=zbz X.prog X.w) (kvs:=vs) (ep:=ep) lo) (I.ok.hd hc) hat (by omega) fun h' tk acc hkp hacc=>?_)
 have hl:acc.toList.length=ks.length:=by rw [Array.length_toList,hacc.1,hlv]
 have hI:IntsAre acc.toList ks:=by
  refine intsAre_of (ns:=ks) ?_
  have key:∀ (js:List Int) (us:List Value),us.length=js.length→(∀ (i:Nat) (v:Value),us[i]? = some v→∃ (j:Int) (t:Tok),js[i]? = some j∧v=Value.int j t)→Vals (js.map V.int) us:=by
   intro js
   induction js with
   | nil=>intro us hl _;cases us with
    | nil=>exact .nil
    | cons _ _=>simp at hl
   | cons j js ih =>
    intro us hl hv
    cases us with
    | nil=>simp at hl
    | cons v us =>
     obtain ⟨j',t,e1,e2⟩:=hv 0 v rfl
     cases e1
     exact .cons ⟨t,e2⟩ (ih us (by simpa using hl) fun i w hw=>hv (i + 1) w (by simpa using hw))
  refine key ks acc.toList hl fun i v hv=>?_
  obtain ⟨k,x,e1,e2⟩:=hacc.2 i v (by rw [← Array.getElem?_toList];exact hv)
  have e3:(vs.map (·.1))[i]? = some k:=by rw [List.getElem?_map,e1];rfl
  rw [← rel.keys,hk,List.getElem?_map] at e3
  cases e4:ks[i]? with
  | none=>rw [e4] at e3;cases e3
  | some j =>
   rw [e4] at e3
   have e5:(Sum.inl j:Key)=k:=Option.some.inj e3
   subst e5
   rcases zbn (k:=Sum.inl j) (v:=v) e2 with ⟨i',t,q1,q2⟩ | ⟨_,_,q1,_⟩
   ·cases q1;exact ⟨j,t,rfl,q2⟩
   ·cases q1
 refine wpAny_bind (wpAny_newList ?_ (by rw [hl];omega))
 have hoL:(h'.push (seqObj "list" acc.toList.toArray 0)).get? h'.objs.size=some (seqObj "list" acc.toList.toArray 0):=Heap.get?_push_size _ rfl
 refine wpAny_bind (wpAny_holding (wpAny_call_entry slot_list_sort ⟨_,hoL,rfl⟩ entry_list_sort (list_sort_tree hoL hI (by omega) fun out ns' a1 a2 a3=>⟨_,rfl,?_⟩) (args_list_sort _)))
 refine wpAny_pure ⟨_,rfl,?_⟩
 have I1:Inv X pins σ H { s with heap:=h',toks:=tk }:=I.kept hkp
 have hf:H h'.objs.size=none:=I1.hok.fresh (Nat.le_refl _)
 obtain ⟨e1,ho1⟩ : ∃ e1,((h'.push (seqObj "list" acc.toList.toArray 0)).update h'.objs.size (Obj.mapSeq fun _=>#[])).get? h'.objs.size=some (seqObj "list" #[] e1):=⟨_,get?_update_seq hoL (fun _=>#[])⟩
 have ho2:=Heap.get?_push_of_some (seqObj "list" #[] 0) (Heap.get?_push_of_some (seqObj "tuple" acc.toList.toArray 0) ho1)
 obtain ⟨e2,ho3⟩ : ∃ e2,(sortedHeap (h'.push (seqObj "list" acc.toList.toArray 0)) h'.objs.size acc.toList out).get? h'.objs.size=some (seqObj "list" out e2):=⟨_,get?_update_seq ho2 (fun _=>out)⟩
 have kp:∀ b u,h'.get? b=some u→(sortedHeap (h'.push (seqObj "list" acc.toList.toArray 0)) h'.objs.size acc.toList out).get? b=some u:=fun b u e=>by
  have hb:b ≠ h'.objs.size:=Nat.ne_of_lt (Heap.lt_size e)
  unfold sortedHeap
  exact (Heap.get?_update_other _ _ (Ne.symm hb)).trans (Heap.get?_push_of_some _ (Heap.get?_push_of_some _ ((Heap.get?_update_other _ _ (Ne.symm hb)).trans (Heap.get?_push_of_some _ e))))
 have hv:Vals (ns'.map V.int) out.toList:=zjC a1
 have hln:ns'.length=ks.length:=a2.length_eq
 refine ⟨.ref h'.objs.size,upd H h'.objs.size (.lst (ns'.map V.int)),I1.laid (t':=tk) kp (Nat.le_refl _) ?_,rfl,q ns' _ a2 a3 hf⟩
 exact ⟨by rw [List.length_map];omega,out.toList,e2,hv,ho3⟩
end
end L2
namespace L2
open PySem PySem.Spec PyProof.Rows
section
variable {X:Cx}
end
theorem Rows.take {K:PySem.W.Frag} {H:Hp}:∀ {xs:List V} {rs:List (List Int)} (k:Nat),Rows K H xs rs→Rows K H (xs.take k) (rs.take k)
 | _,_,0,_ => .nil
 | _,_,_ + 1, .nil => .nil
 | _,_,k + 1, .cons q t => .cons q (Rows.take k t)
theorem Rows.drop {K:PySem.W.Frag} {H:Hp}:∀ {xs:List V} {rs:List (List Int)} (k:Nat),Rows K H xs rs→Rows K H (xs.drop k) (rs.drop k)
 | _,_,0,h=>h
 | _,_,_ + 1, .nil => .nil
 | _,_,k + 1, .cons _ t=>Rows.drop k t
theorem Rows.append {K:PySem.W.Frag} {H:Hp}:∀ {xs ys:List V} {rs qs:List (List Int)},Rows K H xs rs→Rows K H ys qs→Rows K H (xs ++ ys) (rs ++ qs)
 | _,_,_,_, .nil,h=>h
 | _,_,_,_, .cons q t,h => .cons q (Rows.append t h)
end L2
namespace V2
open PySem PySem.Spec PyProof.Rows L2
inductive A where
 | int (i:Int) | bl (b:Bool) | str (x:Str) | non | ty (n:String) | adr (p:Addr) | exn (p d:Addr) (f:Str) (i:Int) | gl (x:Str) | scr (ns:List Int)
 | tup (ds:List A) | lst (ds:List A) | cel (k:Nat)
inductive Fd where
 | val (a:A) | lst (ds:List A) | dct (kvs:List (Key × A))
@[simp] def Fd.own:Fd→Bool
 | .val _=>false
 | _=>true
inductive Cell where
 | lst (ds:List A) | dct (kvs:List (Key × A)) | ins (cls:Str) (fs:List (Str × Fd)) | tab (x:Str) (pos:Pos) (qual:Str) | dead
@[simp] def Cell.noOwn:Cell→Bool
 | .ins _ fs=>fs.all fun p=>!p.2.own
 | _=>true
structure Exc where
 cls:Str
 fs:List (Str × A)
inductive Rs (α:Type) where
 | ok (a:α) | exc (x:Exc)
abbrev Sto:=List Cell
abbrev Ev:=List (Option A)
abbrev Mo (α:Type):=Sto→Option (Rs α × Sto)
@[simp] def ret {α:Type} (a:α):Mo α:=fun Ω=>some (.ok a,Ω)
@[simp] def mb {α β:Type} (m:Mo α) (k:α→Mo β):Mo β:=fun Ω =>
 match m Ω with
 | some (.ok a,Ω1)=>k a Ω1
 | some (.exc x,Ω1)=>some (.exc x,Ω1)
 | none=>none
@[simp] def stuck {α:Type}:Mo α:=fun _=>none
@[simp] def need {α:Type} (o:Option α):Mo α:=fun Ω=>o.map fun a=>(.ok a,Ω)
@[simp] def chk (p:Prop) [Decidable p] : Mo Unit:=fun Ω=>if p then some (.ok (),Ω) else none
mutual
def Den (K:PySem.W.Frag) (G:Hp) (ι:List Addr):V→A→Prop
 | v, .int j=>v = .int j
 | v, .bl b=>v = .bl b
 | v, .str x=>v = .str x
 | v, .non=>v = .non
 | v, .ty n=>v = .ty n
 | v, .adr p=>v = .ref p
 | v, .exn p d f i=>v = .ref p∧G d=some (.xd [(f, .int i)])
 | v, .gl x=>∃ C,PySem.W.nsIn K mainGlobals x=some (some (.ref C))∧v = .ref C
 | v, .scr ns=>∃ a,v = .ref a∧SqL K G a (ns.map V.int)
 | v, .tup ds=>∃ a xs,v = .ref a∧G a=some (.tup xs)∧DenL K G ι xs ds
 | v, .lst ds=>∃ a xs,v = .ref a∧G a=some (.lst xs)∧DenL K G ι xs ds
 | v, .cel k=>∃ a,v = .ref a∧ι[k]? = some a
def DenL (K:PySem.W.Frag) (G:Hp) (ι:List Addr):List V→List A→Prop
 | xs,[]=>xs=[]
 | xs,d :: ds=>∃ x r,xs=x :: r∧Den K G ι x d∧DenL K G ι r ds
end
structure Ext (G:Hp) (ι:List Addr) (G':Hp) (ι':List Addr):Prop where
 same:Same G G'
 pre:∀ (k:Nat) (a:Addr),ι[k]? = some a→ι'[k]? = some a
theorem Ext.refl (G:Hp) (ι:List Addr):Ext G ι G ι:=⟨Same.refl _,fun _ _ h=>h⟩
theorem Ext.trans {G G1 G2:Hp} {ι ι1 ι2:List Addr} (a:Ext G ι G1 ι1) (b:Ext G1 ι1 G2 ι2):Ext G ι G2 ι2:=⟨a.same.trans b.same,fun k x h=>b.pre k x (a.pre k x h)⟩
section
variable {K:PySem.W.Frag} {G G':Hp} {ι ι':List Addr}
mutual
theorem Den.ext (e:Ext G ι G' ι'):∀ {v:V} {d:A},Den K G ι v d→Den K G' ι' v d
 | _, .int _,h=>by simpa only [Den] using h
 | _, .bl _,h=>by simpa only [Den] using h
 | _, .str _,h=>by simpa only [Den] using h
 | _, .non,h=>by simpa only [Den] using h
 | _, .ty _,h=>by simpa only [Den] using h
 | _, .adr _,h=>by simpa only [Den] using h
 | _, .exn _ _ _ _,h=>by
  simp only [Den] at h ⊢
  exact ⟨h.1,e.same _ _ h.2⟩
 | _, .gl _,h=>by simpa only [Den] using h
 | _, .scr _,h=>by
  simp only [Den] at h ⊢
  obtain ⟨a,h1,h2⟩:=h
  exact ⟨a,h1,e.same.seq h2⟩
 | _, .tup ds,h=>by
  simp only [Den] at h ⊢
  obtain ⟨a,xs,h1,h2,h3⟩:=h
  exact ⟨a,xs,h1,e.same _ _ h2,DenL.ext e h3⟩
 | _, .lst ds,h=>by
  simp only [Den] at h ⊢
  obtain ⟨a,xs,h1,h2,h3⟩:=h
  exact ⟨a,xs,h1,e.same _ _ h2,DenL.ext e h3⟩
 | _, .cel k,h=>by
  simp only [Den] at h ⊢
  obtain ⟨a,h1,h2⟩:=h
  exact ⟨a,h1,e.pre _ _ h2⟩
theorem DenL.ext (e:Ext G ι G' ι'):∀ {xs:List V} {ds:List A},DenL K G ι xs ds→DenL K G' ι' xs ds
 | _,[],h=>by simpa only [DenL] using h
 | _,d :: ds,h=>by
  simp only [DenL] at h ⊢
  obtain ⟨x,r,h1,h2,h3⟩:=h
  exact ⟨x,r,h1,Den.ext e h2,DenL.ext e h3⟩
end
theorem zdx {xs:List V}:DenL K G ι xs []↔xs=[]:=by simp only [DenL]
theorem DenL.length:∀ {xs:List V} {ds:List A},DenL K G ι xs ds→xs.length=ds.length
 | _,[],h=>by simp only [DenL] at h;subst h;rfl
 | _,d :: ds,h=>by
  simp only [DenL] at h
  obtain ⟨x,r,rfl,h2,h3⟩:=h
  simp only [List.length_cons,DenL.length h3]
theorem DenL.nil:DenL K G ι [] []:=by simp only [DenL]
theorem DenL.cons {x:V} {xs:List V} {d:A} {ds:List A} (h:Den K G ι x d) (t:DenL K G ι xs ds):DenL K G ι (x :: xs) (d :: ds):=by
 simp only [DenL];exact ⟨x,xs,rfl,h,t⟩
theorem DenL.zdI {xs:List V} {d:A} {ds:List A} (h:DenL K G ι xs (d :: ds)):∃ x r,xs=x :: r∧Den K G ι x d∧DenL K G ι r ds:=by simpa only [DenL] using h
theorem DenL.get:∀ {xs:List V} {ds:List A} {i:Nat} {d:A},DenL K G ι xs ds→ds[i]? = some d→∃ x,xs[i]? = some x∧Den K G ι x d
 | _,[],_,_,_,e=>by simp at e
 | _,_ :: _,0,_,h,e=>by
  obtain ⟨x,r,rfl,h2,h3⟩:=h.zdI
  simp at e;subst e;exact ⟨x,rfl,h2⟩
 | _,_ :: _,i + 1,_,h,e=>by
  obtain ⟨x,r,rfl,h2,h3⟩:=h.zdI
  simp at e
  obtain ⟨y,q1,q2⟩:=DenL.get h3 e
  exact ⟨y,by simpa using q1,q2⟩
theorem DenL.append:∀ {xs ys:List V} {ds es:List A},DenL K G ι xs ds→DenL K G ι ys es→DenL K G ι (xs ++ ys) (ds ++ es)
 | _,_,[],_,h,t=>by rw [zdx] at h;subst h;exact t
 | _,_,d :: ds,_,h,t=>by
  obtain ⟨x,r,rfl,h2,h3⟩:=h.zdI
  exact .cons h2 (DenL.append h3 t)
theorem DenL.take:∀ {xs:List V} {ds:List A} (n:Nat),DenL K G ι xs ds→DenL K G ι (xs.take n) (ds.take n)
 | _,_,0,_=>by simpa using DenL.nil
 | _,[],n + 1,h=>by rw [zdx] at h;subst h;exact DenL.nil
 | _,d :: ds,n + 1,h=>by
  obtain ⟨x,r,rfl,h2,h3⟩:=h.zdI
  exact .cons h2 (DenL.take n h3)
theorem DenL.drop:∀ {xs:List V} {ds:List A} (n:Nat),DenL K G ι xs ds→DenL K G ι (xs.drop n) (ds.drop n)
 | _,_,0,h=>by simpa using h
 | _,[],n + 1,h=>by rw [zdx] at h;subst h;exact DenL.nil
 | _,d :: ds,n + 1,h=>by
  obtain ⟨x,r,rfl,h2,h3⟩:=h.zdI
  exact DenL.drop n h3
theorem DenL.set {x:V} {d:A} (hx:Den K G ι x d):∀ {xs:List V} {ds:List A} (n:Nat),DenL K G ι xs ds→DenL K G ι (xs.set n x) (ds.set n d)
 | _,[],n,h=>by rw [zdx] at h;subst h;exact DenL.nil
 | _,e :: ds,0,h=>by
  obtain ⟨y,r,rfl,h2,h3⟩:=h.zdI
  exact .cons hx h3
 | _,e :: ds,n + 1,h=>by
  obtain ⟨y,r,rfl,h2,h3⟩:=h.zdI
  exact .cons h2 (DenL.set hx n h3)
theorem zjk:∀ (ns:List Int),DenL K G ι (ns.map V.int) (ns.map A.int)
 | [] => .nil
 | n :: ns => .cons (by simp only [Den]) (zjk ns)
end
def zz1 (K:PySem.W.Frag) (G H:Hp) (a:Addr) (x:Str) (pos:Pos) (qual:Str):Prop :=
 G a=none∧(∃ c,PySem.W.tabIn K x=some (c,a))∧∃ ps,H a=some (.tbl ps)∧TriplesOk ps.toList ∧
  (codeAmong pos ps.toList=none∨∃ c' oc vs t,codeAmong pos ps.toList=some (.ref c')∧G c'=some (.frz oc (.own 0))∧oc.data = .fields vs∧vs[1]? = some (.str qual t))
def FdOk (K:PySem.W.Frag) (G:Hp) (ι:List Addr) (H:Hp) (v:V):Fd→Prop
 | .val a=>Den K G ι v a
 | .lst ds=>∃ b xs,v = .ref b∧G b=none∧b ∉ ι∧H b=some (.lst xs)∧DenL K G ι xs ds
 | .dct kvs=>∃ b,∃ ws:List (Key × V),v = .ref b∧G b=none∧b ∉ ι∧H b=some (.dK ws)∧ws.map (·.1)=kvs.map (·.1)∧DenL K G ι (ws.map (·.2)) (kvs.map (·.2))
def zdG (K:PySem.W.Frag) (G:Hp) (ι:List Addr) (H:Hp):List (Str × V)→List (Str × Fd)→Prop
 | [],[]=>True
 | (f,v) :: ws,(g,d) :: fs=>f=g∧FdOk K G ι H v d∧zdG K G ι H ws fs
 | _,_=>False
def ze8 (K:PySem.W.Frag) (G:Hp) (ι:List Addr) (H:Hp) (a:Addr):Cell→Prop
 | .lst ds=>G a=none∧∃ xs,H a=some (.lst xs)∧DenL K G ι xs ds
 | .dct kvs=>G a=none∧∃ ws:List (Key × V),H a=some (.dK ws)∧ws.map (·.1)=kvs.map (·.1)∧DenL K G ι (ws.map (·.2)) (kvs.map (·.2))
 | .ins cls fs=>G a=none∧∃ C dx,∃ ws:List (Str × V),PySem.W.nsIn K mainGlobals cls=some (some (.ref C))∧H a=some (.ins C dx ws)∧zdG K G ι H ws fs
 | .tab x pos qual=>zz1 K G H a x pos qual
 | .dead=>True
def zdB (H:Hp) (ι:List Addr) (Ω:Sto) (k i:Nat) (b:Addr):Prop:=∃ a cls fs C dx ws g h fd,ι[k]? = some a∧Ω[k]? = some (.ins cls fs)∧H a=some (.ins C dx ws)∧fs[i]? = some (g,fd)∧fd.own=true∧ws[i]? = some (h, .ref b)
structure Wd (K:PySem.W.Frag) (G:Hp) (ι:List Addr) (Ω:Sto) (H:Hp):Prop where
 sub:Same G H
 inj:ι.Nodup
 len:ι.length=Ω.length
 live:∀ a ∈ ι,∃ o,H a=some o
 cel:∀ (k:Nat) (c:Cell) (a:Addr),Ω[k]? = some c→ι[k]? = some a→ze8 K G ι H a c
 sep:∀ (b:Addr) (k i k' i':Nat),zdB H ι Ω k i b→zdB H ι Ω k' i' b→k=k'∧i=i'
section
variable {K:PySem.W.Frag} {G G' H H':Hp} {ι ι':List Addr} {Ω:Sto} {a p:Addr}
theorem FdOk.mono {v:V} {fd:Fd} (h:FdOk K G ι H v fd) (e:Ext G ι G' ι') (ho:∀ b o,b ∉ ι→G b=none→H b=some o→b ∉ ι'∧G' b=none∧H' b=some o):FdOk K G' ι' H' v fd:=by
 cases fd with
 | val a=>exact Den.ext e h
 | lst ds =>
  obtain ⟨b,xs,h1,h2,h3,h4,h5⟩:=h
  obtain ⟨q1,q2,q3⟩:=ho b _ h3 h2 h4
  exact ⟨b,xs,h1,q2,q1,q3,h5.ext e⟩
 | dct kvs =>
  obtain ⟨b,ws,h1,h2,h3,h4,h5,h6⟩:=h
  obtain ⟨q1,q2,q3⟩:=ho b _ h3 h2 h4
  exact ⟨b,ws,h1,q2,q1,q3,h5,h6.ext e⟩
theorem zdG.map {K':PySem.W.Frag} {G' H':Hp} {ι':List Addr} (f:∀ v fd,FdOk K G ι H v fd→FdOk K' G' ι' H' v fd):∀ {ws:List (Str × V)} {fs:List (Str × Fd)},zdG K G ι H ws fs→zdG K' G' ι' H' ws fs
 | [],[],_=>trivial
 | (_,_) :: _,(_,_) :: _,h=>⟨h.1,f _ _ h.2.1,zdG.map f h.2.2⟩
 | [],_ :: _,h=>h.elim
 | _ :: _,[],h=>h.elim
theorem ze8.mono {c:Cell} (h:ze8 K G ι H a c) (e:Ext G ι G' ι') (hg:G' a=G a) (hh:H' a=H a) (ho:∀ b o,b ∉ ι→G b=none→H b=some o→b ∉ ι'∧G' b=none∧H' b=some o):ze8 K G' ι' H' a c:=by
 cases c with
 | lst ds=>obtain ⟨g,xs,h1,h2⟩:=h;exact ⟨hg.trans g,xs,hh.trans h1,h2.ext e⟩
 | dct kvs=>obtain ⟨g,ws,h1,h2,h3⟩:=h;exact ⟨hg.trans g,ws,hh.trans h1,h2,h3.ext e⟩
 | ins cls fs=>obtain ⟨g,C,dx,ws,h0,h1,h2⟩:=h;exact ⟨hg.trans g,C,dx,ws,h0,hh.trans h1,h2.map fun _ _ q=>q.mono e ho⟩
 | tab x pos qual =>
  obtain ⟨g,hc,ps,h1,h2,h3⟩:=h
  exact ⟨hg.trans g,hc,ps,hh.trans h1,h2,h3.imp id fun ⟨c',oc,vs,t,q1,q2,q3⟩=>⟨c',oc,vs,t,q1,e.same _ _ q2,q3⟩⟩
 | dead=>trivial
theorem Wd.addr (w:Wd K G ι Ω H) {k:Nat} {c:Cell} (h:Ω[k]? = some c):∃ a,ι[k]? = some a:=by
 have hk:=(List.getElem?_eq_some_iff.mp h).1
 exact ⟨ι[k]'(by rw [w.len];exact hk),List.getElem?_eq_getElem _⟩
theorem Wd.ne (w:Wd K G ι Ω H) (hp:H p=none) (ha:a ∈ ι):a ≠ p:=by
 obtain ⟨o,ho⟩:=w.live a ha
 exact zaz ho hp
theorem Wd.zg9 (w:Wd K G ι Ω H) (hp:H p=none):G p=none:=by
 cases e:G p with
 | none=>rfl
 | some o=>rw [w.sub _ _ e] at hp;cases hp
theorem zdB.to {k i:Nat} {b:Addr} {ι':List Addr} {Ω Ω':Sto} (h:zdB H ι Ω k i b) (h1:∀ a,ι[k]? = some a→ι'[k]? = some a∧∀ o,H a=some o→H' a=some o) (h2:∀ cls fs,Ω[k]? = some (.ins cls fs)→Ω'[k]? = some (.ins cls fs)):zdB H' ι' Ω' k i b:=by
 obtain ⟨a,cls,fs,C,dx,ws,g,h',fd,q1,q2,q3,q4,q5,q6⟩:=h
 exact ⟨a,cls,fs,C,dx,ws,g,h',fd,(h1 a q1).1,h2 _ _ q2,(h1 a q1).2 _ q3,q4,q5,q6⟩
theorem zdB.no {k i:Nat} {b:Addr} {c:Cell} (h:zdB H ι Ω k i b) (hc:Ω[k]? = some c) (hn:c.noOwn=true):False:=by
 obtain ⟨a,cls,fs,C,dx,ws,g,h',fd,q1,q2,q3,q4,q5,q6⟩:=h
 rw [hc] at q2
 cases q2
 simp only [Cell.noOwn,List.all_eq_true] at hn
 have:=hn _ (List.mem_of_getElem? q4)
 simp only [] at this
 rw [q5] at this
 cases this
theorem Wd.grow (w:Wd K G ι Ω H) (s:Same H H'):Wd K G ι Ω H' where
 sub:=w.sub.trans s
 inj:=w.inj
 len:=w.len
 live:=fun a ha=>let ⟨o,ho⟩:=w.live a ha; ⟨o,s _ _ ho⟩
 cel:=fun k c a h1 h2=>by
  have q:=w.cel k c a h1 h2
  cases c with
  | lst ds=>obtain ⟨g,xs,h1,h2⟩:=q;exact ⟨g,xs,s _ _ h1,h2⟩
  | dct kvs=>obtain ⟨g,ws,h1,h2,h3⟩:=q;exact ⟨g,ws,s _ _ h1,h2,h3⟩
  | ins cls fs=>obtain ⟨g,C,dx,ws,h0,h1,h2⟩:=q;exact ⟨g,C,dx,ws,h0,s _ _ h1,h2.map fun _ _ q=>q.mono (Ext.refl _ _) fun b o x y z=>⟨x,y,s _ _ z⟩⟩
  | tab x pos qual =>
   obtain ⟨g,hc,ps,h1,h2⟩:=q
   exact ⟨g,hc,ps,s _ _ h1,h2⟩
  | dead=>trivial
 sep:=fun b k i k' i' h1 h2=>by
  have back:∀ {k i},zdB H' ι Ω k i b→zdB H ι Ω k i b:=fun h=>h.to (fun a ha=>⟨ha,fun o ho=>by
   obtain ⟨o',ho'⟩:=w.live a (List.mem_of_getElem? ha)
   have:=s _ _ ho'
   rw [ho] at this;cases this;exact ho'⟩) fun _ _ q=>q
  exact w.sep b k i k' i' (back h1) (back h2)
theorem zer {α:Type}:∀ {l:List α} {i j:Nat} {x:α},l.Nodup→l[i]? = some x→l[j]? = some x→i=j
 | [],_,_,_,_,h,_=>by simp at h
 | y :: l,0,0,_,_,_,_=>rfl
 | y :: l,0,j + 1,x,n,h1,h2=>by
  simp at h1 h2;subst h1
  exact absurd (List.mem_of_getElem? h2) (List.nodup_cons.mp n).1
 | y :: l,i + 1,0,x,n,h1,h2=>by
  simp at h1 h2;subst h2
  exact absurd (List.mem_of_getElem? h1) (List.nodup_cons.mp n).1
 | y :: l,i + 1,j + 1,x,n,h1,h2=>by
  simp at h1 h2
  rw [zer (List.nodup_cons.mp n).2 h1 h2]
theorem zd9 {α:Type} {l:List α} {k:Nat} {x:α} (h:l[k]? = some x):x ∈ l:=List.mem_of_getElem? h
theorem Ext.new (hp:G p=none) (o:HO):Ext G ι (upd G p o) ι:=⟨Same.new hp,fun _ _ h=>h⟩
theorem Wd.new (w:Wd K G ι Ω H) (hp:H p=none) (o:HO):Wd K (upd G p o) ι Ω (upd H p o) where
 sub:=fun b u h=>by
  by_cases e:b=p
  ·subst e;rw [zay] at h ⊢;exact h
  ·rw [zan e] at h ⊢;exact w.sub _ _ h
 inj:=w.inj
 len:=w.len
 live:=fun a ha=>by rw [zan (w.ne hp ha)];exact w.live a ha
 cel:=fun k c a h1 h2=>by
  have n:=w.ne hp (zd9 h2)
  exact (w.cel k c a h1 h2).mono (Ext.new (w.zg9 hp) o) (zan n) (zan n) fun b u x y z=>by
   have nb:b ≠ p:=zaz z hp
   exact ⟨x,by rw [zan nb];exact y,by rw [zan nb];exact z⟩
 sep:=fun b k i k' i' h1 h2=>by
  have back:∀ {k i},zdB (upd H p o) ι Ω k i b→zdB H ι Ω k i b:=fun h=>h.to (fun a ha=>⟨ha,fun u hu=>by rwa [zan (w.ne hp (List.mem_of_getElem? ha))] at hu⟩) fun _ _ q=>q
  exact w.sep b k i k' i' (back h1) (back h2)
theorem Ext.cell (x:Addr):Ext G ι G (ι ++ [x]):=⟨Same.refl _,fun k a h=>by
 rw [List.getElem?_append_left (List.getElem?_eq_some_iff.mp h).1];exact h⟩
theorem Wd.cell (w:Wd K G ι Ω H) (hp:H p=none) {o:HO} {c:Cell} (hc:ze8 K G (ι ++ [p]) (upd H p o) p c) (hno:c.noOwn=true:=by rfl):Wd K G (ι ++ [p]) (Ω ++ [c]) (upd H p o) where
 sub:=fun b u h=>by
  have e:b ≠ p:=fun e=>by subst e;rw [w.sub _ _ h] at hp;cases hp
  rw [zan e];exact w.sub _ _ h
 inj:=by
  rw [List.nodup_append]
  exact ⟨w.inj,by simp,fun a ha b hb=>by simp at hb;subst hb;exact w.ne hp ha⟩
 len:=by simp [w.len]
 live:=fun a ha=>by
  rcases List.mem_append.mp ha with h | h
  ·rw [zan (w.ne hp h)];exact w.live a h
  ·simp at h;subst h;exact ⟨o,zay⟩
 cel:=fun k c' a h1 h2=>by
  by_cases hk:k < ι.length
  ·rw [List.getElem?_append_left hk] at h2
   rw [List.getElem?_append_left (by rw [← w.len];exact hk)] at h1
   exact (w.cel k c' a h1 h2).mono (Ext.cell p) rfl (zan (w.ne hp (zd9 h2))) fun b u x y z=>by
    have nb:b ≠ p:=zaz z hp
    exact ⟨by simp [x,nb],y,by rw [zan nb];exact z⟩
  ·have hk2:k=ι.length:=by
    have:=(List.getElem?_eq_some_iff.mp h2).1
    simp at this;omega
   subst hk2
   simp at h2;subst h2
   rw [w.len] at h1
   simp at h1;subst h1
   exact hc
 sep:=fun b k i k' i' h1 h2=>by
  have back:∀ {k i},zdB (upd H p o) (ι ++ [p]) (Ω ++ [c]) k i b→zdB H ι Ω k i b:=fun {k i} h=>by
   have h0:=h
   obtain ⟨a,cls,fs,C,dx,ws,g,h',fd,q1,q2,q3,q4,q5,q6⟩:=h
   by_cases hk:k < Ω.length
   ·rw [List.getElem?_append_left hk] at q2
    rw [List.getElem?_append_left (by rw [w.len];exact hk)] at q1
    rw [zan (w.ne hp (zd9 q1))] at q3
    exact ⟨a,cls,fs,C,dx,ws,g,h',fd,q1,q2,q3,q4,q5,q6⟩
   ·have hk2:k=Ω.length:=by
     have:=(List.getElem?_eq_some_iff.mp q2).1
     simp at this;omega
    subst hk2
    exact (h0.no (by simp) hno).elim
  exact w.sep b k i k' i' (back h1) (back h2)
theorem Wd.put (w:Wd K G ι Ω H) {k:Nat} {c:Cell} {o:HO} (hk:ι[k]? = some a) (hg:G a=none) (hc:ze8 K G ι (upd H a o) a c) (hno:c.noOwn=true:=by rfl):Wd K G ι (Ω.set k c) (upd H a o) where
 sub:=fun b u h=>by
  have e:b ≠ a:=fun e=>by subst e;rw [hg] at h;cases h
  rw [zan e];exact w.sub _ _ h
 inj:=w.inj
 len:=by rw [List.length_set];exact w.len
 live:=fun b hb=>by
  by_cases e:b=a
  ·subst e;exact ⟨o,zay⟩
  ·rw [zan e];exact w.live b hb
 cel:=fun j c' b h1 h2=>by
  by_cases hj:j=k
  ·subst hj
   rw [hk] at h2;cases h2
   have hl:j < Ω.length:=by rw [← w.len];exact (List.getElem?_eq_some_iff.mp hk).1
   rw [List.getElem?_set_self hl] at h1
   cases h1;exact hc
  ·rw [List.getElem?_set_ne (Ne.symm hj)] at h1
   have hne:b ≠ a:=fun e=>by
    subst e
    exact hj (zer w.inj h2 hk)
   exact (w.cel j c' b h1 h2).mono (Ext.refl _ _) rfl (zan hne) fun b u x y z=>by
    have nb:b ≠ a:=fun e=>by subst e;exact x (zd9 hk)
    exact ⟨x,y,by rw [zan nb];exact z⟩
 sep:=fun b j i j' i' h1 h2=>by
  have back:∀ {j i},zdB (upd H a o) ι (Ω.set k c) j i b→zdB H ι Ω j i b:=fun {j i} h=>by
   have h0:=h
   obtain ⟨a',cls,fs,C,dx,ws,g,h',fd,q1,q2,q3,q4,q5,q6⟩:=h
   by_cases hj:j=k
   ·subst hj
    have hl:j < Ω.length:=by rw [← w.len];exact (List.getElem?_eq_some_iff.mp hk).1
    exact (h0.no (by rw [List.getElem?_set_self hl]) hno).elim
   ·rw [List.getElem?_set_ne (Ne.symm hj)] at q2
    have hne:a' ≠ a:=fun e=>by subst e;exact hj (zer w.inj q1 hk)
    rw [zan hne] at q3
    exact ⟨a',cls,fs,C,dx,ws,g,h',fd,q1,q2,q3,q4,q5,q6⟩
  exact w.sep b j i j' i' (back h1) (back h2)
theorem Wd.freeze (w:Wd K G ι Ω H) {k:Nat} {o:HO} (hk:ι[k]? = some a) (hg:G a=none) (ho:H a=some o):Wd K (upd G a o) ι (Ω.set k .dead) H where
 sub:=fun b u h=>by
  by_cases e:b=a
  ·subst e;rw [zay] at h;cases h;exact ho
  ·rw [zan e] at h;exact w.sub _ _ h
 inj:=w.inj
 len:=by rw [List.length_set];exact w.len
 live:=w.live
 cel:=fun j c' b h1 h2=>by
  by_cases hj:j=k
  ·subst hj
   have hl:j < Ω.length:=by rw [← w.len];exact (List.getElem?_eq_some_iff.mp hk).1
   rw [List.getElem?_set_self hl] at h1
   cases h1;trivial
  ·rw [List.getElem?_set_ne (Ne.symm hj)] at h1
   have hne:b ≠ a:=fun e=>by
    subst e
    exact hj (zer w.inj h2 hk)
   exact (w.cel j c' b h1 h2).mono (Ext.new hg o) (zan hne) rfl fun b u x y z=>by
    have nb:b ≠ a:=fun e=>by subst e;exact x (zd9 hk)
    exact ⟨x,by rw [zan nb];exact y,z⟩
 sep:=fun b j i j' i' h1 h2=>by
  have back:∀ {j i},zdB H ι (Ω.set k .dead) j i b→zdB H ι Ω j i b:=fun {j i} h=>by
   have h0:=h
   obtain ⟨a',cls,fs,C,dx,ws,g,h',fd,q1,q2,q3,q4,q5,q6⟩:=h
   by_cases hj:j=k
   ·subst hj
    have hl:j < Ω.length:=by rw [← w.len];exact (List.getElem?_eq_some_iff.mp hk).1
    exact (h0.no (by rw [List.getElem?_set_self hl]) rfl).elim
   ·rw [List.getElem?_set_ne (Ne.symm hj)] at q2
    exact ⟨a',cls,fs,C,dx,ws,g,h',fd,q1,q2,q3,q4,q5,q6⟩
  exact w.sep b j i j' i' (back h1) (back h2)
end
def EnvR (K:PySem.W.Frag) (G:Hp) (ι:List Addr) (σ:L2.St) (ρ:Ev):Prop:=σ.length=ρ.length∧∀ (i:Nat) (d:A),ρ[i]? = some (some d)→∃ v,σ[i]? = some (some v)∧Den K G ι v d
theorem EnvR.ext {K:PySem.W.Frag} {G G':Hp} {ι ι':List Addr} {σ:L2.St} {ρ:Ev} (r:EnvR K G ι σ ρ) (e:Ext G ι G' ι'):EnvR K G' ι' σ ρ:=⟨r.1,fun i d h=>let ⟨v,h1,h2⟩:=r.2 i d h; ⟨v,h1,h2.ext e⟩⟩
theorem EnvR.set {K:PySem.W.Frag} {G:Hp} {ι:List Addr} {σ:L2.St} {ρ:Ev} (r:EnvR K G ι σ ρ) (j:Nat) {v:V} {d:A} (h:Den K G ι v d):EnvR K G ι (σ.set j (some v)) (ρ.set j (some d)):=by
 refine ⟨by rw [List.length_set,List.length_set];exact r.1,fun i e he=>?_⟩
 by_cases hij:i=j
 ·subst hij
  have hl:i < ρ.length:=by
   have:=(List.getElem?_eq_some_iff.mp he).1
   rwa [List.length_set] at this
  rw [List.getElem?_set_self hl] at he
  cases he
  exact ⟨v,List.getElem?_set_self (by rw [r.1];exact hl),h⟩
 ·rw [List.getElem?_set_ne (Ne.symm hij)] at he ⊢
  exact r.2 i e he
theorem EnvR.unset {K:PySem.W.Frag} {G:Hp} {ι:List Addr} {σ:L2.St} {ρ:Ev} (r:EnvR K G ι σ ρ) (j:Nat) (o:Option V):EnvR K G ι (σ.set j o) (ρ.set j none):=by
 refine ⟨by rw [List.length_set,List.length_set];exact r.1,fun i e he=>?_⟩
 by_cases hij:i=j
 ·subst hij
  have hl:i < ρ.length:=by
   have:=(List.getElem?_eq_some_iff.mp he).1
   rwa [List.length_set] at this
  rw [List.getElem?_set_self hl] at he
  cases he
 ·rw [List.getElem?_set_ne (Ne.symm hij)] at he ⊢
  exact r.2 i e he
def ExcR (K:PySem.W.Frag) (G:Hp) (ι:List Addr) (H:Hp) (x:Exc) (cls:Value) (dx:Option Addr):Prop :=
 (∃ C,PySem.W.nsIn K mainGlobals x.cls=some (some (.ref C))∧cls = .ref C)∧((x.fs=[]∧dx=none)∨∃ d f i,dx=some d∧x.fs=[(f, .int i)]∧G d=some (.xd [(f, .int i)]))
abbrev Rl (α β:Type):=Hp→List Addr→β→α→Prop
def Post {α β:Type} (K:PySem.W.Frag) (rel:Rl α β) (W:WX) (G:Hp) (ι:List Addr) (σ:L2.St) (Q:β→Hp→Prop):Option (Rs α × Sto)→Prop
 | some (.ok a,Ω')=>∀ v H' G' ι',Ext G ι G' ι'→Wd K G' ι' Ω' H'→rel G' ι' v a→Q v H'
 | some (.exc x,Ω')=>∀ cls dx H' G' ι',Ext G ι G' ι'→Wd K G' ι' Ω' H'→ExcR K G' ι' H' x cls dx→W σ cls dx H'
 | none=>False
theorem Post.ext {α β:Type} {K:PySem.W.Frag} {rel:Rl α β} {W:WX} {G G1:Hp} {ι ι1:List Addr} {σ:L2.St} {Q:β→Hp→Prop} {r:Option (Rs α × Sto)} (h:Post K rel W G ι σ Q r) (e:Ext G ι G1 ι1):Post K rel W G1 ι1 σ Q r:=by
 match r,h with
 | some (.ok a,Ω'),h=>exact fun v H' G' ι' x w d=>h v H' G' ι' (e.trans x) w d
 | some (.exc x,Ω'),h=>exact fun cls dx H' G' ι' x w d=>h cls dx H' G' ι' (e.trans x) w d
theorem Post.mb {α β γ δ:Type} {K:PySem.W.Frag} {rel:Rl α β} {rel':Rl γ δ} {W:WX} {G:Hp} {ι:List Addr} {σ:L2.St} {Q:δ→Hp→Prop} {Q1:β→Hp→Prop} {m:Mo α} {k:α→Mo γ} {Ω:Sto} (h:Post K rel' W G ι σ Q (mb m k Ω))
  (hk:∀ a Ω1 v H1 G1 ι1,Ext G ι G1 ι1→Wd K G1 ι1 Ω1 H1→rel G1 ι1 v a→Post K rel' W G1 ι1 σ Q (k a Ω1)→Q1 v H1):Post K rel W G ι σ Q1 (m Ω):=by
 unfold V2.mb at h
 revert h
 generalize m Ω=r
 intro h
 match r,h with
 | some (.ok a,Ω1),h=>exact fun v H1 G1 ι1 x w d=>hk a Ω1 v H1 G1 ι1 x w d (Post.ext h x)
 | some (.exc x,Ω1),h=>exact h
theorem Post.need {α β γ:Type} {K:PySem.W.Frag} {rel':Rl α β} {W:WX} {G:Hp} {ι:List Addr} {σ:L2.St} {Q:β→Hp→Prop} {o:Option γ} {k:γ→Mo α} {Ω:Sto} (h:Post K rel' W G ι σ Q (V2.mb (need o) k Ω)):∃ a,o=some a∧Post K rel' W G ι σ Q (k a Ω):=by
 cases o with
 | none=>exact False.elim h
 | some a=>exact ⟨a,rfl,h⟩
theorem Post.chk {α β:Type} {K:PySem.W.Frag} {rel':Rl α β} {W:WX} {G:Hp} {ι:List Addr} {σ:L2.St} {Q:β→Hp→Prop} {p:Prop} [Decidable p] {k:Unit→Mo α} {Ω:Sto} (h:Post K rel' W G ι σ Q (V2.mb (chk p) k Ω)):p∧Post K rel' W G ι σ Q (k () Ω):=by
 unfold V2.mb V2.chk at h
 by_cases hp:p
 ·rw [if_pos hp] at h;exact ⟨hp,h⟩
 ·rw [if_neg hp] at h;exact False.elim h
def Sim {α β:Type} (K:PySem.W.Frag) (rel:Rl α β) (W:WX) (t:L2.St→Hp→(β→Hp→Prop)→Prop) (f:Ev→Mo α):Prop :=
 ∀ G ι Ω H σ ρ Q,Wd K G ι Ω H→EnvR K G ι σ ρ→Post K rel W G ι σ Q (f ρ Ω)→t σ H Q
def relB:Rl Bool Bool:=fun _ _ b c=>b=c
def VE (X:Cx) (W:WX) (e:Expr) (f:Ev→Mo A):Prop:=∃ t,PE X e t∧Sim X.K (Den X.K) W t f
def VT (X:Cx) (W:WX) (e:Expr) (f:Ev→Mo Bool):Prop:=∃ t,PT X e t∧Sim X.K relB W t f
def VW (X:Cx) (W:WX) (e:Expr) (f:Ev→Mo Bool):Prop:=∃ t,PW X e t∧Sim X.K relB W t f
def VA (X:Cx) (W:WX) (es:List Expr) (f:Ev→Mo (List A)):Prop:=∃ t,PA X es t∧Sim X.K (DenL X.K) W t f
end V2
namespace V2
open PySem PySem.Spec PyProof.Rows L2
section
variable {K:PySem.W.Frag} {G H:Hp} {ι:List Addr} {Ω:Sto} {v:V} {a:A}
def zaD (Ω:Sto):A→Option (List A)
 | .lst ds=>some ds
 | .scr ns=>some (ns.map A.int)
 | .cel k=>match Ω[k]? with
  | some (.lst ds)=>some ds
  | _=>none
 | _=>none
def zbl (Ω:Sto):A→Option (List A)
 | .tup ds=>some ds
 | a=>zaD Ω a
theorem zco (w:Wd K G ι Ω H) (d:Den K G ι v a) {ds:List A} (h:zaD Ω a=some ds):∃ p xs,v = .ref p∧SqL K H p xs∧DenL K G ι xs ds:=by
 cases a with
 | lst es =>
  simp only [zaD,Option.some.injEq] at h;subst h
  simp only [Den] at d
  obtain ⟨p,xs,h1,h2,h3⟩:=d
  exact ⟨p,xs,h1,SqL.of (w.sub _ _ h2),h3⟩
 | scr ns =>
  simp only [zaD,Option.some.injEq] at h;subst h
  simp only [Den] at d
  obtain ⟨p,h1,h2⟩:=d
  exact ⟨p,_,h1,w.sub.seq h2,zjk ns⟩
 | cel k =>
  simp only [zaD] at h
  cases e:Ω[k]? with
  | none=>rw [e] at h;cases h
  | some c =>
   rw [e] at h
   cases c with
   | lst es =>
    simp only [Option.some.injEq] at h;subst h
    simp only [Den] at d
    obtain ⟨p,h1,h2⟩:=d
    obtain ⟨g,xs,h3,h4⟩:=w.cel k _ p e h2
    exact ⟨p,xs,h1,SqL.of h3,h4⟩
   | _=>cases h
 | _=>simp [zaD] at h
theorem zj6 (w:Wd K G ι Ω H) (d:Den K G ι v a) {ds:List A} (h:zbl Ω a=some ds):∃ p xs,v = .ref p∧(SqL K H p xs∨SqT K H p xs)∧DenL K G ι xs ds:=by
 cases a with
 | tup es =>
  simp only [zbl,Option.some.injEq] at h;subst h
  simp only [Den] at d
  obtain ⟨p,xs,h1,h2,h3⟩:=d
  exact ⟨p,xs,h1, .inr (SqT.of (w.sub _ _ h2)),h3⟩
 | _ =>
  obtain ⟨p,xs,h1,h2,h3⟩:=zco w d h
  exact ⟨p,xs,h1, .inl h2,h3⟩
theorem zoN (w:Wd K G ι Ω H) (d:Den K G ι v a) {ds:List A} (h:zaD Ω a=some ds) (hs:∀ ns,a ≠ .scr ns):∃ p xs,v = .ref p∧H p=some (.lst xs)∧DenL K G ι xs ds:=by
 cases a with
 | lst es =>
  simp only [zaD,Option.some.injEq] at h;subst h
  simp only [Den] at d
  obtain ⟨p,xs,h1,h2,h3⟩:=d
  exact ⟨p,xs,h1,w.sub _ _ h2,h3⟩
 | scr ns=>exact absurd rfl (hs ns)
 | cel k =>
  simp only [zaD] at h
  cases e:Ω[k]? with
  | none=>rw [e] at h;cases h
  | some c =>
   rw [e] at h
   cases c with
   | lst es =>
    simp only [Option.some.injEq] at h;subst h
    simp only [Den] at d
    obtain ⟨p,h1,h2⟩:=d
    obtain ⟨g,xs,h3,h4⟩:=w.cel k _ p e h2
    exact ⟨p,xs,h1,h3,h4⟩
   | _=>cases h
 | _=>simp [zaD] at h
end
@[simp] def mkL (c:Bool) (ds:List A):Mo A:=fun Ω=>if c then some (.ok (.cel Ω.length),Ω ++ [.lst ds]) else some (.ok (.lst ds),Ω)
section
variable {K:PySem.W.Frag} {G H:Hp} {ι:List Addr} {Ω:Sto} {W:WX} {σ:L2.St} {Q:VK}
theorem zov {c:Bool} {ds:List A} {xs:List V} {p:Addr} (w:Wd K G ι Ω H) (hp:H p=none) (d:DenL K G ι xs ds) (h:Post K (Den K) W G ι σ Q (mkL c ds Ω)):Q (.ref p) (upd H p (.lst xs)):=by
 cases c with
 | true =>
  refine h _ _ G (ι ++ [p]) (Ext.cell p) (w.cell hp ⟨w.zg9 hp,xs,zay,d.ext (Ext.cell p)⟩) ?_
  simp only [Den]
  exact ⟨p,rfl,by rw [← w.len];simp⟩
 | false =>
  refine h _ _ _ _ (Ext.new (w.zg9 hp) (.lst xs)) (w.new hp _) ?_
  simp only [Den]
  exact ⟨p,xs,rfl,zay,d.ext (Ext.new (w.zg9 hp) _)⟩
@[simp] def mkT (ds:List A):Mo A:=ret (.tup ds)
theorem zsr {ds:List A} {xs:List V} {p:Addr} (w:Wd K G ι Ω H) (hp:H p=none) (d:DenL K G ι xs ds) (h:Post K (Den K) W G ι σ Q (mkT ds Ω)):Q (.ref p) (upd H p (.tup xs)):=by
 refine h _ _ _ _ (Ext.new (w.zg9 hp) (.tup xs)) (w.new hp _) ?_
 simp only [Den]
 exact ⟨p,xs,rfl,zay,d.ext (Ext.new (w.zg9 hp) _)⟩
theorem zbY {α β:Type} {rel:Rl α β} {Q:β→Hp→Prop} {a:α} {b:β} (w:Wd K G ι Ω H) (d:rel G ι b a) (h:Post K rel W G ι σ Q (ret a Ω)):Q b H:=h b H G ι (Ext.refl _ _) w d
end
section
variable {X:Cx} {W:WX} {e a b:Expr} {es:List Expr} {pos:Pos} {fa fb:Ev→Mo A} {fs:Ev→Mo (List A)}
@[simp] def vVar (i:Nat):Ev→Mo A:=fun ρ=>need (ρ[i]?).join
theorem join_some {α:Type} {o:Option (Option α)} {x:α} (h:o.join=some x):o=some (some x):=by
 cases o with
 | none=>cases h
 | some y=>cases y with
  | none=>cases h
  | some z=>cases h;rfl
theorem zwm {K:PySem.W.Frag} {i:Nat}:Sim K (Den K) W (tVar i) (vVar i):=by
 intro G ι Ω H σ ρ Q w r h
 unfold vVar need at h
 cases e:(ρ[i]?).join with
 | none=>rw [e] at h;exact False.elim h
 | some d =>
  rw [e] at h
  obtain ⟨v,h1,h2⟩:=r.2 i d (join_some e)
  exact ⟨v,h1,h v H G ι (Ext.refl _ _) w h2⟩
theorem vv (i:Nat) {x:Str} (hN:X.N[i]? = some x:=by rfl) (hv:Vis X.env.scope x:=by first | exact Or.inl rfl | exact Or.inr (Or.inl rfl) | exact Or.inr (Or.inr rfl)) (hd:(x == ("__debug__" : Str))=false:=by decide)
  (hcd:(x == ("__classdict__" : Str))=false:=by decide):VE X W (.Name x pos) (vVar i):=⟨_,zvh hN hv hd hcd,zwm⟩
@[simp] def vFrz (i:Nat):Ev→Mo A:=fun ρ Ω=>match (ρ[i]?).join with
 | some (.cel k)=>match Ω[k]? with
  | some (.lst ds)=>some (.ok (.lst ds),Ω.set k .dead)
  | _=>none
 | _=>none
theorem zwv {K:PySem.W.Frag} {i:Nat}:Sim K (Den K) W (tVar i) (vFrz i):=by
 intro G ι Ω H σ ρ Q w r h
 unfold vFrz at h
 cases e:(ρ[i]?).join with
 | none=>rw [e] at h;exact False.elim h
 | some d =>
  rw [e] at h
  cases d with
  | cel k =>
   simp only at h
   cases e2:Ω[k]? with
   | none=>rw [e2] at h;exact False.elim h
   | some c =>
    rw [e2] at h
    cases c with
    | lst ds =>
     obtain ⟨v,h1,h2⟩:=r.2 i _ (join_some e)
     simp only [Den] at h2
     obtain ⟨p,rfl,h4⟩:=h2
     obtain ⟨g,xs,h5,h6⟩:=w.cel k _ p e2 h4
     refine ⟨_,h1,h _ H (upd G p (.lst xs)) ι (Ext.new g _) (w.freeze h4 g h5) ?_⟩
     simp only [Den]
     exact ⟨p,xs,rfl,zay,h6.ext (Ext.new g _)⟩
    | _=>exact False.elim h
  | _=>exact False.elim h
theorem vf (i:Nat) {x:Str} (hN:X.N[i]? = some x:=by rfl) (hv:Vis X.env.scope x:=by first | exact Or.inl rfl | exact Or.inr (Or.inl rfl) | exact Or.inr (Or.inr rfl)) (hd:(x == ("__debug__" : Str))=false:=by decide)
  (hcd:(x == ("__classdict__" : Str))=false:=by decide):VE X W (.Name x pos) (vFrz i):=⟨_,zvh hN hv hd hcd,zwv⟩
theorem zn8 {K:PySem.W.Frag} {v:V} {d:A} (h:∀ G ι,Den K G ι v d):Sim K (Den K) W (tC v) (fun _=>ret d):=fun G ι _ _ _ _ _ w _ q=>zbY w (h G ι) q
theorem zad {i:Int} {j}:VE X W (.Constant (.int i) j pos) (fun _=>ret (.int i)):=⟨_,zyF,zn8 fun _ _=>by simp only [Den]⟩
theorem zk7 {i:Bool} {j}:VE X W (.Constant (.bool i) j pos) (fun _=>ret (.bl i)):=⟨_,zz0,zn8 fun _ _=>by simp only [Den]⟩
theorem zhC {j}:VE X W (.Constant .none j pos) (fun _=>ret .non):=⟨_,zxR,zn8 fun _ _=>by simp only [Den]⟩
theorem zoF {x:Str} {j}:VE X W (.Constant (.str x) j pos) (fun _=>ret (.str x)):=⟨_,zyT,zn8 fun _ _=>by simp only [Den]⟩
theorem zwU {x:Str} {p:Addr} (hg:Gl X x) (hm:X.mg x=some (.ref p)) (hK:PySem.W.nsIn X.K mainGlobals x=some (some (.ref p))) (hd:(x == ("__debug__" : Str))=false:=by decide):VE X W (.Name x pos) (fun _=>ret (.gl x)) :=
 ⟨_,zrG (v := .ref p) hg hm rfl hd,zn8 fun _ _=>by simp only [Den];exact ⟨p,hK,rfl⟩⟩
theorem ztY {x:Str} {i:Int} (hg:Gl X x) (hm:∃ t,X.mg x=some (.int i t)) (hd:(x == ("__debug__" : Str))=false:=by decide):VE X W (.Name x pos) (fun _=>ret (.int i)):=by
 obtain ⟨t,hm⟩:=hm
 exact ⟨_,zrG (v := .int i) hg hm ⟨t,rfl⟩ hd,zn8 fun _ _=>by simp only [Den]⟩
theorem zvr {x:Str} {n:String} (hg:Gl X x) (hm:X.mg x=none) (hv:bootBuiltins x=some (.type n)) (hn:x ≠ "__name__":=by decide) (hd:(x == ("__debug__" : Str))=false:=by decide):VE X W (.Name x pos) (fun _=>ret (.ty n)) :=
 ⟨_,zvM (v := .ty n) hg hm hv rfl hn hd,zn8 fun _ _=>by simp only [Den]⟩
theorem zaf:VA X W [] (fun _=>ret []):=⟨_,zsv,fun _ _ _ _ _ _ _ w _ q=>zbY w .nil q⟩
@[simp] def zab (f:Ev→Mo A) (g:Ev→Mo (List A)):Ev→Mo (List A):=fun ρ=>mb (f ρ) fun x=>mb (g ρ) fun xs=>ret (x :: xs)
theorem zaa (h1:VE X W e fa) (h2:VA X W es fs) (hs:starEach (e :: es) X.env=(false,eval e X.env) :: starEach es X.env:=by rfl):VA X W (e :: es) (zab fa fs):=by
 obtain ⟨t,p1,s1⟩:=h1
 obtain ⟨u,p2,s2⟩:=h2
 refine ⟨_,zn2 p1 p2 hs,fun G ι Ω H σ ρ Q w r h=>?_⟩
 refine s1 G ι Ω H σ ρ _ w r (Post.mb h fun x Ω1 v H1 G1 ι1 x1 w1 d1 h1=>?_)
 refine s2 G1 ι1 Ω1 H1 σ ρ _ w1 (r.ext x1) (Post.mb h1 fun xs Ω2 vs H2 G2 ι2 x2 w2 d2 h2=>?_)
 exact zbY w2 (.cons (d1.ext x2) d2) h2
@[simp] def vTup (g:Ev→Mo (List A)):Ev→Mo A:=fun ρ=>mb (g ρ) fun xs=>mb (chk (xs.length ≤ sizeLine)) fun _=>mkT xs
theorem zdE {k} (h:VA X W es fs):VE X W (.Tuple es k pos) (vTup fs):=by
 obtain ⟨t,p,s⟩:=h
 refine ⟨_,zyq p,fun G ι Ω H σ ρ Q w r h=>?_⟩
 refine s G ι Ω H σ ρ _ w r (Post.mb h fun xs Ω1 vs H1 G1 ι1 x1 w1 d1 h1=>?_)
 obtain ⟨hl,h2⟩:=Post.chk h1
 exact ⟨by rw [d1.length];exact hl,fun p hp=>zsr w1 hp d1 h2⟩
@[simp] def vLst (c:Bool) (g:Ev→Mo (List A)):Ev→Mo A:=fun ρ=>mb (g ρ) fun xs=>mb (chk (xs.length ≤ sizeLine)) fun _=>mkL c xs
theorem zdb (c:Bool) (h:VA X W es fs):VE X W (.List es pos) (vLst c fs):=by
 obtain ⟨t,p,s⟩:=h
 refine ⟨_,zx2 p,fun G ι Ω H σ ρ Q w r h=>?_⟩
 refine s G ι Ω H σ ρ _ w r (Post.mb h fun xs Ω1 vs H1 G1 ι1 x1 w1 d1 h1=>?_)
 obtain ⟨hl,h2⟩:=Post.chk h1
 exact ⟨by rw [d1.length];exact hl,fun p hp=>zov w1 hp d1 h2⟩
def OpV (K:PySem.W.Frag) (W:WX) (r:R2) (g:A→A→Mo A):Prop :=
 ∀ G ι Ω H σ x y a b Q,Wd K G ι Ω H→Den K G ι x a→Den K G ι y b→Post K (Den K) W G ι σ Q (g a b Ω)→r x y H Q
def OpOk (X:Cx) (W:WX) (f:Value→Value→Sem Value) (g:A→A→Mo A):Prop:=∃ r,OpR X f r∧OpV X.K W r g
@[simp] def vOp (g:A→A→Mo A) (f h:Ev→Mo A):Ev→Mo A:=fun ρ=>mb (f ρ) fun x=>mb (h ρ) fun y=>g x y
theorem zo1 {K:PySem.W.Frag} {r:R2} {g:A→A→Mo A} {ta tb:TE} (ho:OpV K W r g) (h1:Sim K (Den K) W ta fa) (h2:Sim K (Den K) W tb fb):Sim K (Den K) W (tOp r ta tb) (vOp g fa fb):=by
 intro G ι Ω H σ ρ Q w q h
 refine h1 G ι Ω H σ ρ _ w q (Post.mb h fun x Ω1 v H1 G1 ι1 x1 w1 d1 h1=>?_)
 refine h2 G1 ι1 Ω1 H1 σ ρ _ w1 (q.ext x1) (Post.mb h1 fun y Ω2 u H2 G2 ι2 x2 w2 d2 h2=>?_)
 exact ho G2 ι2 Ω2 H2 σ v u x y Q w2 (d1.ext x2) d2 h2
theorem zam {op:Operator} {g:A→A→Mo A} (ho:OpOk X W (binaryOp op) g) (ha:VE X W a fa) (hb:VE X W b fb):VE X W (.BinOp a op b pos) (vOp g fa fb):=by
 obtain ⟨r,o1,o2⟩:=ho
 obtain ⟨t,p1,s1⟩:=ha
 obtain ⟨u,p2,s2⟩:=hb
 exact ⟨_,zzl o1 p1 p2,zo1 o2 s1 s2⟩
@[simp] def gI (C:Int→Int→Prop) [∀ i j,Decidable (C i j)] (g:Int→Int→A):A→A→Mo A
 | .int i, .int j=>mb (chk (C i j)) fun _=>ret (g i j)
 | _,_=>stuck
theorem zuq {K:PySem.W.Frag} {C:Int→Int→Prop} [∀ i j,Decidable (C i j)] {g:Int→Int→V} {g':Int→Int→A} (hg:∀ G ι i j,Den K G ι (g i j) (g' i j)):OpV K W (rI C g) (gI C g'):=by
 intro G ι Ω H σ x y a b Q w d1 d2 h
 cases a with
 | int i =>
  cases b with
  | int j =>
   simp only [Den] at d1 d2
   obtain ⟨hc,h2⟩:=Post.chk h
   exact ⟨i,j,d1,d2,hc,zbY w (hg _ _ _ _) h2⟩
  | _=>exact False.elim h
 | _=>exact False.elim h
@[simp] def gI0 (g:Int→Int→A):A→A→Mo A
 | .int i, .int j=>ret (g i j)
 | _,_=>stuck
theorem zm3 {K:PySem.W.Frag} {g:Int→Int→V} {g':Int→Int→A} (hg:∀ G ι i j,Den K G ι (g i j) (g' i j)):OpV K W (rI0 g) (gI0 g'):=by
 intro G ι Ω H σ x y a b Q w d1 d2 h
 cases a with
 | int i =>
  cases b with
  | int j =>
   simp only [Den] at d1 d2
   exact ⟨i,j,d1,d2,zbY w (hg _ _ _ _) h⟩
  | _=>exact False.elim h
 | _=>exact False.elim h
instance:∀ i j,Decidable (CMul i j):=fun i j=>by unfold CMul;infer_instance
instance:∀ i j,Decidable (CDiv i j):=fun i j=>by unfold CDiv;infer_instance
instance:∀ i j,Decidable (CPow i j):=fun i j=>by unfold CPow;infer_instance
@[simp] def gSub:=gI0 fun i j => .int (i - j)
@[simp] def gMul:=gI CMul fun i j => .int (i * j)
@[simp] def gDiv:=gI CDiv fun i j => .int (i / j)
@[simp] def gMod:=gI (fun _ j=>0 < j) fun i j => .int (i % j)
@[simp] def gPow:=gI CPow fun i j => .int (i ^ j.toNat)
theorem zd4:OpOk X W (binaryOp .Sub) gSub:=⟨_,zxJ,zm3 fun _ _ _ _=>by simp only [Den]⟩
theorem zlk:OpOk X W (binaryOp .Mult) gMul:=⟨_,zyj,zuq fun _ _ _ _=>by simp only [Den]⟩
theorem zig:OpOk X W (binaryOp .FloorDiv) gDiv:=⟨_,zv2,zuq fun _ _ _ _=>by simp only [Den]⟩
theorem zdR:OpOk X W (binaryOp .Mod) gMod:=⟨_,zy5,zuq fun _ _ _ _=>by simp only [Den]⟩
theorem zpI:OpOk X W (binaryOp .Pow) gPow:=⟨_,zyx,zuq fun _ _ _ _=>by simp only [Den]⟩
@[simp] def zpH:A→Bool
 | .scr _=>true
 | _=>false
theorem zuV {a:A} (h:zpH a=false):∀ ns,a ≠ .scr ns:=fun ns e=>by subst e;cases h
@[simp] def gCat (c:Bool) (a b:A):Mo A:=fun Ω=>match zaD Ω a,zaD Ω b with
  | some xs,some ys=>if zpH a || zpH b || decide (sizeLine < xs.length + ys.length) then none else mkL c (xs ++ ys) Ω
  | _,_=>none
@[simp] def gAdd (c:Bool):A→A→Mo A
 | .int i, .int j=>ret (.int (i + j))
 | .tup xs, .tup ys=>mb (chk (0 < xs.length∧xs.length + ys.length ≤ sizeLine)) fun _=>mkT (xs ++ ys)
 | a,b=>gCat c a b
theorem zvy {K:PySem.W.Frag} {c:Bool}:OpV K W rCat (gCat c):=by
 intro G ι Ω H σ x y a b Q w d1 d2 h
 unfold gCat at h
 match e1:zaD Ω a,e2:zaD Ω b with
 | none,_=>rw [e1] at h;exact False.elim h
 | some xs,none=>rw [e1,e2] at h;exact False.elim h
 | some xs,some ys =>
  rw [e1,e2] at h
  simp only at h
  by_cases hb:(zpH a || zpH b || decide (sizeLine < xs.length + ys.length))=true
  ·rw [if_pos hb] at h;exact False.elim h
  ·rw [if_neg hb] at h
   simp only [Bool.or_eq_true,decide_eq_true_eq,not_or,Bool.not_eq_true] at hb
   obtain ⟨p,us,rfl,h2,h3⟩:=zoN w d1 e1 (zuV hb.1.1)
   obtain ⟨q,ws,rfl,h5,h6⟩:=zoN w d2 e2 (zuV hb.1.2)
   exact ⟨p,q,us,ws,rfl,rfl,h2,h5,by rw [h3.length,h6.length];omega,fun r hr=>zov w hr (h3.append h6) h⟩
theorem zbs (c:Bool):OpOk X W (binaryOp .Add) (gAdd c):=by
 refine ⟨_,zxw.or (zy4.or zxd),?_⟩
 intro G ι Ω H σ x y a b Q w d1 d2 h
 unfold gAdd at h
 split at h
 ·simp only [Den] at d1 d2
  exact .inl ⟨_,_,d1,d2,zbY w (by simp only [Den]) h⟩
 ·rename_i xs ys
  simp only [Den] at d1 d2
  obtain ⟨p,us,rfl,h2,h3⟩:=d1
  obtain ⟨q,ws,rfl,h5,h6⟩:=d2
  obtain ⟨⟨c1,c2⟩,h⟩:=Post.chk h
  refine .inr (.inr ⟨p,q,us,ws,rfl,rfl,SqT.of (w.sub _ _ h2),SqT.of (w.sub _ _ h5),?_,by rw [h3.length,h6.length];exact c2,fun e=>?_,fun _ r hr=>zsr w hr (h3.append h6) h⟩)
  ·intro e
   subst e
   have:=h3.length
   simp at this
   omega
  ·subst e
   refine zbY w ?_ h
   simp only [Den]
   exact ⟨p,us,rfl,h2,by simpa using h3.append h6⟩
 ·exact .inr (.inl (zvy G ι Ω H σ x y _ _ Q w d1 d2 h))
end
end V2
namespace V2
open PySem PySem.Spec PyProof.Rows L2
def pur:Nat→A→Bool
 | _, .int _=>true
 | _, .bl _=>true
 | _, .non=>true
 | _, .str x=>PyData.canLay0 (.str x)
 | n + 1, .tup ds=>ds.all (pur n)
 | n + 1, .lst ds=>ds.all (pur n)
 | _,_=>false
def zmL (f:A→A→Bool):List A→List A→Bool
 | [],[]=>true
 | x :: xs,y :: ys=>f x y && zmL f xs ys
 | _,_=>false
def eqA:Nat→A→A→Bool
 | _, .int i, .int j=>i == j
 | _, .bl i, .bl j=>i == j
 | _, .bl i, .int j=>(if i then 1 else 0) == j
 | _, .int i, .bl j=>i == (if j then 1 else 0)
 | _, .non, .non=>true
 | _, .str x, .str y=>x == y
 | n + 1, .tup xs, .tup ys=>zmL (eqA n) xs ys
 | n + 1, .lst xs, .lst ys=>zmL (eqA n) xs ys
 | _,_,_=>false
def toPy:Nat→A→PyData
 | _, .int i => .int i
 | _, .bl i => .bool i
 | _, .str x => .str x
 | n + 1, .tup ds => .tuple (ds.map (toPy n))
 | n + 1, .lst ds => .list (ds.map (toPy n))
 | _,_ => .none
theorem zoJ:∀ (ds:List A) (n:Nat),(∀ d ∈ ds,pur n d=true→PyData.canLay0 (toPy n d)=true)→ds.all (pur n)=true→PyData.canLayAll0 (ds.map (toPy n))=true
 | [],_,_,_=>rfl
 | d :: ds,n,ih,h=>by
  simp only [List.all_cons,Bool.and_eq_true] at h
  simp only [List.map_cons,PyData.canLayAll0,Bool.and_eq_true]
  exact ⟨ih d (List.mem_cons_self ..) h.1,zoJ ds n (fun e he=>ih e (List.mem_cons_of_mem _ he)) h.2⟩
theorem zgA:∀ (n:Nat) (a:A),pur n a=true→PyData.canLay0 (toPy n a)=true:=by
 intro n
 induction n with
 | zero=>intro a h;cases a <;> first | rfl | exact h | cases h
 | succ n ih =>
  intro a h
  cases a with
  | tup ds=>exact zoJ ds n (fun d _=>ih d) h
  | lst ds=>exact zoJ ds n (fun d _=>ih d) h
  | str x=>exact h
  | int i=>rfl
  | bl b=>rfl
  | non=>rfl
  | _=>cases h
theorem zqz:∀ (ds:List A) (n:Nat),(∀ d ∈ ds,(toPy n d).depth ≤ n)→PyData.depthAll (ds.map (toPy n)) ≤ n
 | [],_,_=>Nat.zero_le _
 | d :: ds,n,ih=>by
  simp only [List.map_cons,PyData.depthAll]
  exact Nat.max_le.mpr ⟨ih d (List.mem_cons_self ..),zqz ds n fun e he=>ih e (List.mem_cons_of_mem _ he)⟩
theorem zin:∀ (n:Nat) (a:A),(toPy n a).depth ≤ n:=by
 intro n
 induction n with
 | zero=>intro a;cases a <;> exact Nat.le_refl _
 | succ n ih =>
  intro a
  cases a with
  | tup ds=>exact Nat.succ_le_succ (zqz ds n fun d _=>ih d)
  | lst ds=>exact Nat.succ_le_succ (zqz ds n fun d _=>ih d)
  | _=>exact Nat.zero_le _
theorem zu5:∀ (xs ys:List A) (n:Nat),(∀ x ∈ xs,∀ y ∈ ys,PyData.eqv (toPy n x) (toPy n y)=eqA n x y)→PyData.eqvAll (xs.map (toPy n)) (ys.map (toPy n))=zmL (eqA n) xs ys
 | [],[],_,_=>rfl
 | [],_ :: _,_,_=>rfl
 | _ :: _,[],_,_=>rfl
 | x :: xs,y :: ys,n,ih=>by
  simp only [List.map_cons,PyData.eqvAll,zmL]
  rw [ih x (List.mem_cons_self ..) y (List.mem_cons_self ..),zu5 xs ys n fun a ha b hb=>ih a (List.mem_cons_of_mem _ ha) b (List.mem_cons_of_mem _ hb)]
theorem zle:∀ (n:Nat) (a b:A),pur n a=true→pur n b=true→PyData.eqv (toPy n a) (toPy n b)=eqA n a b:=by
 intro n
 induction n with
 | zero=>intro a b ha hb;cases a <;> cases b <;> first | rfl | (simp [pur] at ha;done) | (simp [pur] at hb;done)
 | succ n ih =>
  intro a b ha hb
  have lst:∀ xs ys:List A,xs.all (pur n)=true→ys.all (pur n)=true→PyData.eqvAll (xs.map (toPy n)) (ys.map (toPy n))=zmL (eqA n) xs ys:=fun xs ys h1 h2 =>
   zu5 xs ys n fun x hx y hy=>ih x y (List.all_eq_true.mp h1 x hx) (List.all_eq_true.mp h2 y hy)
  cases a <;> cases b <;> first | rfl | (simp [pur] at ha;done) | (simp [pur] at hb;done) | exact lst _ _ ha hb
section
variable {X:Cx} {pins:List (Addr × Obj)} {σ:L2.St} {H:Hp} {s:Shared} {ι:List Addr}
theorem readsAll (n:Nat) (ih:∀ (v:V) (u:Value) (a:A),pur n a=true→Den X.K H ι v a→RelV v u→∃ as,Reads s.heap u (toPy n a) as) :
  ∀ (ds:List A) (xs:List V) (us:List Value),ds.all (pur n)=true→DenL X.K H ι xs ds→Vals xs us→∃ as,ReadsAll s.heap us (ds.map (toPy n)) as
 | [],xs,us,_,d,r=>by
  rw [zdx] at d;subst d;cases r;exact ⟨_, .nil⟩
 | a :: ds,xs,us,h,d,r=>by
  obtain ⟨x,t,rfl,d1,d2⟩:=d.zdI
  simp only [List.all_cons,Bool.and_eq_true] at h
  cases r with
  | cons r1 r2 =>
   obtain ⟨as,q1⟩:=ih _ _ _ h.1 d1 r1
   obtain ⟨bs,q2⟩:=readsAll n ih ds _ _ h.2 d2 r2
   exact ⟨_, .cons q1 q2⟩
theorem zgD (I:Inv X pins σ H s):∀ (n:Nat) (v:V) (u:Value) (a:A),pur n a=true→Den X.K H ι v a→RelV v u→∃ as,Reads s.heap u (toPy n a) as:=by
 intro n
 induction n with
 | zero =>
  intro v u a h d r
  cases a with
  | int i=>simp only [Den] at d;subst d;obtain ⟨t,rfl⟩:=r;exact ⟨_, .int i t⟩
  | bl b=>simp only [Den] at d;subst d;cases r;exact ⟨_, .bool b⟩
  | str x=>simp only [Den] at d;subst d;obtain ⟨t,rfl⟩:=r;exact ⟨_, .str x t⟩
  | non=>simp only [Den] at d;subst d;cases r;exact ⟨_, .none⟩
  | _=>cases h
 | succ n ih =>
  intro v u a h d r
  cases a with
  | int i=>simp only [Den] at d;subst d;obtain ⟨t,rfl⟩:=r;exact ⟨_, .int i t⟩
  | bl b=>simp only [Den] at d;subst d;cases r;exact ⟨_, .bool b⟩
  | str x=>simp only [Den] at d;subst d;obtain ⟨t,rfl⟩:=r;exact ⟨_, .str x t⟩
  | non=>simp only [Den] at d;subst d;cases r;exact ⟨_, .none⟩
  | tup ds =>
   simp only [Den] at d
   obtain ⟨p,xs,rfl,h2,h3⟩:=d
   cases r
   obtain ⟨its,rv,pl,hz⟩:=I.tuple (SqT.of h2)
   obtain ⟨as,q⟩:=readsAll n ih ds xs its h h3 rv
   obtain ⟨o,ho,hc,m,hd⟩:=(show s.heap.IsTuple p its.toArray from pl)
   exact ⟨_, .tuple ho hc hd (by simpa using q)⟩
  | lst ds =>
   simp only [Den] at d
   obtain ⟨p,xs,rfl,h2,h3⟩:=d
   cases r
   obtain ⟨its,rv,pl,hz⟩:=I.list (SqL.of h2)
   obtain ⟨as,q⟩:=readsAll n ih ds xs its h h3 rv
   obtain ⟨o,ho,hc,m,hd⟩:=pl.isList
   exact ⟨_, .list ho hc hd (by simpa using q)⟩
  | _=>cases h
end
def rEqA (K:PySem.W.Frag) (neg:Bool):R2:=fun x y H Q=>∃ ι a b,pur 8 a=true∧pur 8 b=true∧Den K H ι x a∧Den K H ι y b∧Q (.bl (if neg then !eqA 8 a b else eqA 8 a b)) H
theorem zyS {X:Cx} (hu:X.A.units + 64 < cLine):OpR X (compareOp .Eq) (rEqA X.K false):=by
 intro pins s σ H x y v u Q I rx ry h
 obtain ⟨ι,a,b,h1,h2,d1,d2,q⟩:=h
 obtain ⟨as,q1⟩:=zgD I 8 x v a h1 d1 rx
 obtain ⟨bs,q2⟩:=zgD I 8 y u b h2 d2 ry
 have e1:=zin 8 a
 refine SeqAt.compareEq_reads q1 q2 (zgA 8 a h1) (zgA 8 b h2) (by omega) ?_
 rw [zle 8 a b h1 h2]
 exact ⟨.bl (eqA 8 a b),H,I,rfl,q⟩
theorem zxq {X:Cx} (hu:X.A.units + 64 < cLine):OpR X (compareOp .NotEq) (rEqA X.K true):=by
 intro pins s σ H x y v u Q I rx ry h
 obtain ⟨ι,a,b,h1,h2,d1,d2,q⟩:=h
 obtain ⟨as,q1⟩:=zgD I 8 x v a h1 d1 rx
 obtain ⟨bs,q2⟩:=zgD I 8 y u b h2 d2 ry
 have e1:=zin 8 a
 refine SeqAt.compareNe_reads q1 q2 (zgA 8 a h1) (zgA 8 b h2) (by omega) ?_
 rw [zle 8 a b h1 h2]
 exact ⟨.bl (!eqA 8 a b),H,I,rfl,q⟩
def mapO (f:A→Option A):List A→Option (List A)
 | []=>some []
 | x :: xs=>match f x,mapO f xs with
  | some y,some ys=>some (y :: ys)
  | _,_=>none
def res (Ω:Sto):Nat→A→Option A
 | 0,a=>if pur 8 a=true then some a else none
 | n + 1,a=>if pur 8 a=true then some a else match a with
  | .tup ds=>(mapO (res Ω n) ds).map .tup
  | .lst ds=>(mapO (res Ω n) ds).map .lst
  | .cel k=>match Ω[k]? with
   | some (.lst ds)=>(mapO (res Ω n) ds).map .lst
   | _=>none
  | _=>none
section
variable {K:PySem.W.Frag} {G H:Hp} {ι:List Addr} {Ω:Sto}
theorem Wd.extH (w:Wd K G ι Ω H):Ext G ι H ι:=⟨w.sub,fun _ _ h=>h⟩
theorem zla {f:A→Option A} (ih:∀ v a b,Den K G ι v a→f a=some b→Den K H ι v b):∀ (ds es:List A) (xs:List V),DenL K G ι xs ds→mapO f ds=some es→DenL K H ι xs es
 | [],es,xs,d,h=>by
  simp only [mapO,Option.some.injEq] at h;subst h
  rw [zdx] at d ⊢;exact d
 | a :: ds,es,xs,d,h=>by
  obtain ⟨x,t,rfl,d1,d2⟩:=d.zdI
  simp only [mapO] at h
  split at h
  ·rename_i y ys e1 e2
   cases h
   exact .cons (ih _ _ _ d1 e1) (zla ih ds ys t d2 e2)
  ·cases h
theorem zoP (w:Wd K G ι Ω H):∀ (n:Nat) (v:V) (a b:A),Den K G ι v a→res Ω n a=some b→Den K H ι v b:=by
 intro n
 induction n with
 | zero =>
  intro v a b d h
  simp only [res] at h
  split at h
  ·cases h;exact d.ext w.extH
  ·cases h
 | succ n ih =>
  intro v a b d h
  simp only [res] at h
  split at h
  ·cases h;exact d.ext w.extH
  ·split at h
   ·rename_i ds _
    simp only [Option.map_eq_some_iff] at h
    obtain ⟨es,h1,rfl⟩:=h
    simp only [Den] at d ⊢
    obtain ⟨p,xs,q1,q2,q3⟩:=d
    exact ⟨p,xs,q1,w.sub _ _ q2,zla ih ds es xs q3 h1⟩
   ·rename_i ds _
    simp only [Option.map_eq_some_iff] at h
    obtain ⟨es,h1,rfl⟩:=h
    simp only [Den] at d ⊢
    obtain ⟨p,xs,q1,q2,q3⟩:=d
    exact ⟨p,xs,q1,w.sub _ _ q2,zla ih ds es xs q3 h1⟩
   ·rename_i k _
    split at h
    ·rename_i ds e
     simp only [Option.map_eq_some_iff] at h
     obtain ⟨es,h1,rfl⟩:=h
     simp only [Den] at d ⊢
     obtain ⟨p,q1,q2⟩:=d
     obtain ⟨g,xs,q3,q4⟩:=w.cel k _ p e q2
     exact ⟨p,xs,q1,q3,zla ih ds es xs q4 h1⟩
    ·cases h
   ·cases h
end
def gEqB (neg:Bool) (a b:A):Mo A:=fun Ω=>match res Ω 6 a,res Ω 6 b with
 | some x,some y=>if (pur 8 x && pur 8 y)=true then some (.ok (.bl (if neg then !eqA 8 x y else eqA 8 x y)),Ω) else none
 | _,_=>none
def gEq:=gEqB false
def gNe:=gEqB true
section
variable {X:Cx} {W:WX} {e a b c:Expr} {pos:Pos} {fa fb fc:Ev→Mo A} {ta tb:Ev→Mo Bool}
theorem zqH {K:PySem.W.Frag} {neg:Bool}:OpV K W (rEqA K neg) (gEqB neg):=by
 intro G ι Ω H σ x y a b Q w d1 d2 h
 unfold gEqB at h
 split at h
 ·rename_i a' b' e1 e2
  split at h
  ·rename_i hp
   rw [Bool.and_eq_true] at hp
   exact ⟨ι,a',b',hp.1,hp.2,zoP w 6 x a a' d1 e1,zoP w 6 y b b' d2 e2,h _ H G ι (Ext.refl _ _) w (by simp only [Den])⟩
  ·exact False.elim h
 ·exact False.elim h
theorem o_eq (hu:X.A.units + 64 < cLine):OpOk X W (compareOp .Eq) gEq:=⟨_,zyS hu,zqH⟩
theorem o_ne (hu:X.A.units + 64 < cLine):OpOk X W (compareOp .NotEq) gNe:=⟨_,zxq hu,zqH⟩
@[simp] def gLt:=gI0 fun i j => .bl (decide (i < j))
@[simp] def gLe:=gI0 fun i j => .bl (decide (i ≤ j))
@[simp] def gGt:=gI0 fun i j => .bl (decide (j < i))
@[simp] def gGe:=gI0 fun i j => .bl (decide (j ≤ i))
theorem o_lt:OpOk X W (compareOp .Lt) gLt:=⟨_,zzU,zm3 fun _ _ _ _=>by simp only [Den]⟩
theorem o_le:OpOk X W (compareOp .LtE) gLe:=⟨_,zzo,zm3 fun _ _ _ _=>by simp only [Den]⟩
theorem o_gt:OpOk X W (compareOp .Gt) gGt:=⟨_,zzm,zm3 fun _ _ _ _=>by simp only [Den]⟩
theorem o_ge:OpOk X W (compareOp .GtE) gGe:=⟨_,zzJ,zm3 fun _ _ _ _=>by simp only [Den]⟩
def zhm:A→Option Bool
 | .non=>some true
 | _=>some false
theorem zoL {K:PySem.W.Frag} {G:Hp} {ι:List Addr} {v:V} {a:A} (d:Den K G ι v a):zhm a=some (decide (v = .non)):=by
 cases a with
 | non=>simp only [Den] at d;subst d;rfl
 | tup ds=>simp only [Den] at d;obtain ⟨p,xs,rfl,_⟩:=d;rfl
 | lst ds=>simp only [Den] at d;obtain ⟨p,xs,rfl,_⟩:=d;rfl
 | scr ds=>simp only [Den] at d;obtain ⟨p,rfl,_⟩:=d;rfl
 | cel ds=>simp only [Den] at d;obtain ⟨p,rfl,_⟩:=d;rfl
 | gl x=>simp only [Den] at d;obtain ⟨p,_,rfl⟩:=d;rfl
 | exn p d' f i=>simp only [Den] at d;obtain ⟨rfl,_⟩:=d;rfl
 | _=>simp only [Den] at d;subst d;rfl
@[simp] def gIsN (neg:Bool):A→A→Mo A
 | a, .non=>mb (need (zhm a)) fun k=>ret (.bl (if neg then !k else k))
 | _,_=>stuck
theorem zze:OpOk X W (compareOp .Is) (gIsN false):=by
 refine ⟨_,zxD,?_⟩
 intro G ι Ω H σ x y a b Q w d1 d2 h
 cases b with
 | non =>
  simp only [Den] at d2
  obtain ⟨k,e,h⟩:=Post.need h
  rw [zoL d1] at e
  cases e
  exact ⟨d2,zbY w (by simp only [Den];rfl) h⟩
 | _=>exact False.elim h
theorem zuS:OpOk X W (compareOp .IsNot) (gIsN true):=by
 refine ⟨_,zwN,?_⟩
 intro G ι Ω H σ x y a b Q w d1 d2 h
 cases b with
 | non =>
  simp only [Den] at d2
  obtain ⟨k,e,h⟩:=Post.need h
  rw [zoL d1] at e
  cases e
  exact ⟨d2,zbY w (by simp only [Den];rfl) h⟩
 | _=>exact False.elim h
@[simp] def ztw:A→Mo Bool
 | .bl b=>ret b
 | _=>stuck
@[simp] def zaP (f:Ev→Mo A):Ev→Mo Bool:=fun ρ=>mb (f ρ) ztw
theorem zo8 {K:PySem.W.Frag} {t:TE} (h:Sim K (Den K) W t fa):Sim K relB W (zyK t) (zaP fa):=by
 intro G ι Ω H σ ρ Q w r q
 refine h G ι Ω H σ ρ _ w r (Post.mb q fun x Ω1 v H1 G1 ι1 x1 w1 d1 h1=>?_)
 cases x with
 | bl b=>simp only [Den] at d1;exact ⟨b,d1,zbY w1 rfl h1⟩
 | _=>exact False.elim h1
theorem zmo {op:CmpOp} {g:A→A→Mo A} (ho:OpOk X W (compareOp op) g) (ha:VE X W a fa) (hb:VE X W b fb) (hm:behindInMarks op b=false):VE X W (.Compare a [op] [b] pos) (vOp g fa fb):=by
 obtain ⟨r,o1,o2⟩:=ho
 obtain ⟨t,p1,s1⟩:=ha
 obtain ⟨u,p2,s2⟩:=hb
 exact ⟨_,zv6 o1 p1 p2 hm,zo1 o2 s1 s2⟩
theorem zbk {op:CmpOp} {g:A→A→Mo A} (ho:OpOk X W (compareOp op) g) (ha:VE X W a fa) (hb:VE X W b fb) (hm:behindInMarks op b=false):VT X W (.Compare a [op] [b] pos) (zaP (vOp g fa fb)):=by
 obtain ⟨r,o1,o2⟩:=ho
 obtain ⟨t,p1,s1⟩:=ha
 obtain ⟨u,p2,s2⟩:=hb
 exact ⟨_,zxg o1 p1 p2 hm,zo8 (zo1 o2 s1 s2)⟩
theorem ziG (h:VE X W e fa) (he:∀ whole,isTrue e X.env whole=(do let v ← whole;standAt e.pos;holding [v] (truthy v)):=by intro _;rfl):VT X W e (zaP fa):=by
 obtain ⟨t,p,s⟩:=h
 exact ⟨_,zyg p he,zo8 s⟩
@[simp] def zyV (f g:Ev→Mo Bool):Ev→Mo Bool:=fun ρ=>mb (f ρ) fun c=>if c then g ρ else ret false
@[simp] def vOrT (f g:Ev→Mo Bool):Ev→Mo Bool:=fun ρ=>mb (f ρ) fun c=>if c then ret true else g ρ
@[simp] def zjl (f:Ev→Mo Bool):Ev→Mo Bool:=fun ρ=>mb (f ρ) fun c=>ret (!c)
variable {rest:List Expr}
theorem zw3 (h:VT X W a ta):VW X W (.BoolOp .And [a] pos) ta:=let ⟨t,p,s⟩:=h; ⟨t,pw_and1 p,s⟩
theorem zkV (h:VT X W a ta):VW X W (.BoolOp .Or [a] pos) ta:=let ⟨t,p,s⟩:=h; ⟨t,pw_or1 p,s⟩
theorem zyn (h1:VT X W a ta) (h2:VW X W (.BoolOp .And (b :: rest) pos) tb):VW X W (.BoolOp .And (a :: b :: rest) pos) (zyV ta tb):=by
 obtain ⟨t,p1,s1⟩:=h1
 obtain ⟨u,p2,s2⟩:=h2
 refine ⟨_,pw_and p1 p2,fun G ι Ω H σ ρ Q w r h=>?_⟩
 refine s1 G ι Ω H σ ρ _ w r (Post.mb h fun c Ω1 c' H1 G1 ι1 x1 w1 d1 h1=>?_)
 cases (show c'=c from d1)
 cases c with
 | true=>exact s2 G1 ι1 Ω1 H1 σ ρ Q w1 (r.ext x1) h1
 | false=>exact zbY w1 rfl h1
theorem zlB (h1:VT X W a ta) (h2:VW X W (.BoolOp .Or (b :: rest) pos) tb):VW X W (.BoolOp .Or (a :: b :: rest) pos) (vOrT ta tb):=by
 obtain ⟨t,p1,s1⟩:=h1
 obtain ⟨u,p2,s2⟩:=h2
 refine ⟨_,pw_or p1 p2,fun G ι Ω H σ ρ Q w r h=>?_⟩
 refine s1 G ι Ω H σ ρ _ w r (Post.mb h fun c Ω1 c' H1 G1 ι1 x1 w1 d1 h1=>?_)
 cases (show c'=c from d1)
 cases c with
 | false=>exact s2 G1 ι1 Ω1 H1 σ ρ Q w1 (r.ext x1) h1
 | true=>exact zbY w1 rfl h1
theorem VW.vt (h:VW X W e ta):VT X W e ta:=let ⟨t,p,s⟩:=h; ⟨t,p.pt,s⟩
theorem ziF (h:VT X W a ta):VT X W (.UnaryOp .Not a pos) (zjl ta):=by
 obtain ⟨t,p,s⟩:=h
 refine ⟨_,zyQ p,fun G ι Ω H σ ρ Q w r h=>?_⟩
 refine s G ι Ω H σ ρ _ w r (Post.mb h fun c Ω1 c' H1 G1 ι1 x1 w1 d1 h1=>?_)
 cases (show c'=c from d1)
 exact zbY w1 rfl h1
@[simp] def vAnd (f g:Ev→Mo A):Ev→Mo A:=fun ρ=>mb (f ρ) fun x=>mb (ztw x) fun c=>if c then g ρ else ret (.bl false)
@[simp] def vOr (f g:Ev→Mo A):Ev→Mo A:=fun ρ=>mb (f ρ) fun x=>mb (ztw x) fun c=>if c then ret (.bl true) else g ρ
@[simp] def vNot (f:Ev→Mo A):Ev→Mo A:=fun ρ=>mb (f ρ) fun x=>mb (ztw x) fun c=>ret (.bl (!c))
theorem zq8 {op} (h:VE X W a fa):VE X W (.BoolOp op [a] pos) fa:=let ⟨t,p,s⟩:=h; ⟨t,zxV p,s⟩
theorem zu6 (h1:VE X W a fa) (h2:VE X W (.BoolOp .And (b :: rest) pos) fb):VE X W (.BoolOp .And (a :: b :: rest) pos) (vAnd fa fb):=by
 obtain ⟨t,p1,s1⟩:=h1
 obtain ⟨u,p2,s2⟩:=h2
 refine ⟨_,zyD p1 p2,fun G ι Ω H σ ρ Q w r h=>?_⟩
 refine s1 G ι Ω H σ ρ _ w r (Post.mb h fun x Ω1 v H1 G1 ι1 x1 w1 d1 h1=>?_)
 cases x with
 | bl c =>
  simp only [Den] at d1
  refine ⟨c,d1,?_⟩
  cases c with
  | true=>exact s2 G1 ι1 Ω1 H1 σ ρ Q w1 (r.ext x1) h1
  | false=>exact zbY w1 (by simp only [Den]) h1
 | _=>exact False.elim h1
theorem zzO (h1:VE X W a fa) (h2:VE X W (.BoolOp .Or (b :: rest) pos) fb):VE X W (.BoolOp .Or (a :: b :: rest) pos) (vOr fa fb):=by
 obtain ⟨t,p1,s1⟩:=h1
 obtain ⟨u,p2,s2⟩:=h2
 refine ⟨_,zzG p1 p2,fun G ι Ω H σ ρ Q w r h=>?_⟩
 refine s1 G ι Ω H σ ρ _ w r (Post.mb h fun x Ω1 v H1 G1 ι1 x1 w1 d1 h1=>?_)
 cases x with
 | bl c =>
  simp only [Den] at d1
  refine ⟨c,d1,?_⟩
  cases c with
  | false=>exact s2 G1 ι1 Ω1 H1 σ ρ Q w1 (r.ext x1) h1
  | true=>exact zbY w1 (by simp only [Den]) h1
 | _=>exact False.elim h1
theorem zy8 (h:VE X W a fa):VE X W (.UnaryOp .Not a pos) (vNot fa):=by
 obtain ⟨t,p,s⟩:=h
 refine ⟨_,zy0 p,fun G ι Ω H σ ρ Q w r h=>?_⟩
 refine s G ι Ω H σ ρ _ w r (Post.mb h fun x Ω1 v H1 G1 ι1 x1 w1 d1 h1=>?_)
 cases x with
 | bl c =>
  simp only [Den] at d1
  exact ⟨c,d1,zbY w1 (by simp only [Den]) h1⟩
 | _=>exact False.elim h1
@[simp] def vIf (t:Ev→Mo Bool) (f g:Ev→Mo A):Ev→Mo A:=fun ρ=>mb (t ρ) fun c=>if c then f ρ else g ρ
theorem zy2 (hc:VT X W c ta) (h1:VE X W a fa) (h2:VE X W b fb):VE X W (.IfExp c a b pos) (vIf ta fa fb):=by
 obtain ⟨t0,p0,s0⟩:=hc
 obtain ⟨t,p1,s1⟩:=h1
 obtain ⟨u,p2,s2⟩:=h2
 refine ⟨_,ztF p0 p1 p2,fun G ι Ω H σ ρ Q w r h=>?_⟩
 refine s0 G ι Ω H σ ρ _ w r (Post.mb h fun c Ω1 c' H1 G1 ι1 x1 w1 d1 h1=>?_)
 cases (show c'=c from d1)
 cases c with
 | true=>exact s1 G1 ι1 Ω1 H1 σ ρ Q w1 (r.ext x1) h1
 | false=>exact s2 G1 ι1 Ω1 H1 σ ρ Q w1 (r.ext x1) h1
@[simp] def vNeg (f:Ev→Mo A):Ev→Mo A:=fun ρ=>mb (f ρ) fun x=>match x with
 | .int i=>ret (.int (-i))
 | _=>stuck
theorem zsB (h:VE X W a fa):VE X W (.UnaryOp .USub a pos) (vNeg fa):=by
 obtain ⟨t,p,s⟩:=h
 refine ⟨_,zzp zxv p,fun G ι Ω H σ ρ Q w r h=>?_⟩
 refine s G ι Ω H σ ρ _ w r (Post.mb h fun x Ω1 v H1 G1 ι1 x1 w1 d1 h1=>?_)
 cases x with
 | int c =>
  simp only [Den] at d1
  exact ⟨c,d1,zbY w1 (by simp only [Den]) h1⟩
 | _=>exact False.elim h1
end
end V2
namespace V2
open PySem PySem.Spec PyProof.Rows L2
inductive Out where
 | nx | bk | ct | ret (a:A) | exc (x:Exc)
abbrev OS:=Option (Out × Ev × Sto)
abbrev MS:=Ev→Sto→OS
def OutS (K:PySem.W.Frag) (W:WX) (G:Hp) (ι:List Addr) (D:Ends) (σ:L2.St) (H:Hp):Out→Prop
 | .nx=>D.nx σ H
 | .bk=>D.bk σ H
 | .ct=>D.ct σ H
 | .ret a=>∀ v,Den K G ι v a→D.rt v H
 | .exc x=>∀ cls dx,ExcR K G ι H x cls dx→W σ cls dx H
def zb6 (K:PySem.W.Frag) (W:WX) (G:Hp) (ι:List Addr) (D:Ends):OS→Prop
 | some (o,ρ',Ω')=>∀ σ' H' G' ι',Ext G ι G' ι'→Wd K G' ι' Ω' H'→EnvR K G' ι' σ' ρ'→OutS K W G' ι' D σ' H' o
 | none=>False
@[simp] def sM {α:Type} (m:Mo α) (ρ:Ev) (k:α→Sto→OS):Sto→OS:=fun Ω=>match m Ω with
 | some (.ok a,Ω1)=>k a Ω1
 | some (.exc x,Ω1)=>some (.exc x,ρ,Ω1)
 | none=>none
section
variable {K:PySem.W.Frag} {W:WX} {G:Hp} {ι:List Addr} {Ω:Sto} {σ:L2.St} {ρ:Ev} {D:Ends}
theorem zb6.ext {G1:Hp} {ι1:List Addr} {r:OS} (h:zb6 K W G ι D r) (e:Ext G ι G1 ι1):zb6 K W G1 ι1 D r:=by
 match r,h with
 | some (o,ρ',Ω'),h=>exact fun σ' H' G' ι' x w d=>h σ' H' G' ι' (e.trans x) w d
theorem zb6.sM {α β:Type} {rel:Rl α β} {m:Mo α} {k:α→Sto→OS} {Q1:β→Hp→Prop} (h:zb6 K W G ι D (V2.sM m ρ k Ω)) (r:EnvR K G ι σ ρ)
  (hk:∀ a Ω1 v H1 G1 ι1,Ext G ι G1 ι1→Wd K G1 ι1 Ω1 H1→rel G1 ι1 v a→zb6 K W G1 ι1 D (k a Ω1)→Q1 v H1):Post K rel W G ι σ Q1 (m Ω):=by
 unfold V2.sM at h
 revert h
 generalize m Ω=q
 intro h
 match q,h with
 | some (.ok a,Ω1),h=>exact fun v H1 G1 ι1 x w d=>hk a Ω1 v H1 G1 ι1 x w d (zb6.ext h x)
 | some (.exc x,Ω1),h=>exact fun cls dx H' G' ι' e w d=>h σ H' G' ι' e w (r.ext e) cls dx d
end
def SimS (K:PySem.W.Frag) (W:WX) (t:TS) (f:MS):Prop:=∀ G ι Ω H σ ρ D,Wd K G ι Ω H→EnvR K G ι σ ρ→zb6 K W G ι D (f ρ Ω)→t D σ H
def VS (X:Cx) (W:WX) (st:Stmt) (f:MS):Prop:=∃ t,PS X st t∧SimS X.K W t f
def VSs (X:Cx) (W:WX) (st:List Stmt) (f:MS):Prop:=∃ t,PSs X st t∧SimS X.K W t f
def SimG (K:PySem.W.Frag) (W:WX) (t:TG) (g:A→MS):Prop:=∀ G ι Ω H σ ρ v a D,Wd K G ι Ω H→EnvR K G ι σ ρ→Den K G ι v a→zb6 K W G ι D (g a ρ Ω)→t v σ H D.nx
def zz9 (K:PySem.W.Frag) (W:WX) (t:TGs) (g:List A→MS):Prop:=∀ G ι Ω H σ ρ vs as D,Wd K G ι Ω H→EnvR K G ι σ ρ→DenL K G ι vs as→zb6 K W G ι D (g as ρ Ω)→t vs σ H D.nx
def VG (X:Cx) (W:WX) (tg:Expr) (g:A→MS):Prop:=∃ t,PG X tg t∧SimG X.K W t g
def VGs (X:Cx) (W:WX) (tgs:List Expr) (g:List A→MS):Prop:=∃ t,PGs X tgs t∧zz9 X.K W t g
@[simp] def sNx:MS:=fun ρ Ω=>some (.nx,ρ,Ω)
@[simp] def sSeq (f g:MS):MS:=fun ρ Ω=>match f ρ Ω with
 | some (.nx,ρ1,Ω1)=>g ρ1 Ω1
 | r=>r
section
variable {X:Cx} {W:WX} {st:Stmt} {rest:List Stmt} {f g:MS} {e:Expr} {fe:Ev→Mo A} {pos:Pos}
theorem zmB {K:PySem.W.Frag} {G H:Hp} {ι:List Addr} {Ω:Sto} {σ:L2.St} {ρ:Ev} {D:Ends} (w:Wd K G ι Ω H) (r:EnvR K G ι σ ρ) (h:zb6 K W G ι D (some (.nx,ρ,Ω))):D.nx σ H:=h σ H G ι (Ext.refl _ _) w r
theorem zbe:VSs X W [] sNx:=⟨_,zwH,fun _ _ _ _ _ _ _ w r h=>zmB w r h⟩
theorem zrM {K:PySem.W.Frag} {t u:TS} (h1:SimS K W t f) (h2:SimS K W u g):SimS K W (tSeq t u) (sSeq f g):=by
 intro G ι Ω H σ ρ D w r h
 refine h1 G ι Ω H σ ρ _ w r ?_
 unfold sSeq at h
 revert h
 generalize f ρ Ω=q
 intro h
 match q,h with
 | some (.nx,ρ1,Ω1),h=>exact fun σ' H' G' ι' x w' r'=>h2 G' ι' Ω1 H' σ' ρ1 D w' r' (zb6.ext h x)
 | some (.bk,ρ1,Ω1),h=>exact h
 | some (.ct,ρ1,Ω1),h=>exact h
 | some (.ret a,ρ1,Ω1),h=>exact h
 | some (.exc a,ρ1,Ω1),h=>exact h
theorem zae (h1:VS X W st f) (h2:VSs X W rest g):VSs X W (st :: rest) (sSeq f g):=by
 obtain ⟨t,p1,s1⟩:=h1
 obtain ⟨u,p2,s2⟩:=h2
 exact ⟨_,zuK p1 p2,zrM s1 s2⟩
theorem zai (h1:VS X W st f):VSs X W [st] f:=let ⟨t,p,s⟩:=h1; ⟨t,zwP p,s⟩
@[simp] def sExp (fe:Ev→Mo A):MS:=fun ρ=>sM (fe ρ) ρ fun _ Ω=>some (.nx,ρ,Ω)
theorem zdN (h:VE X W e fe) (hs:swapsWith e none pos.line X.env=pure false:=by rfl):VS X W (.Expr e pos) (sExp fe):=by
 obtain ⟨t,p,s⟩:=h
 refine ⟨_,zvp p hs,fun G ι Ω H σ ρ D w r h=>?_⟩
 exact s G ι Ω H σ ρ _ w r (zb6.sM h r fun a Ω1 v H1 G1 ι1 x1 w1 d1 h1=>zmB w1 (r.ext x1) h1)
@[simp] def sRet (fe:Ev→Mo A):MS:=fun ρ=>sM (fe ρ) ρ fun a Ω=>some (.ret a,ρ,Ω)
theorem za1 (h:VE X W e fe):VS X W (.Return (some e) pos) (sRet fe):=by
 obtain ⟨t,p,s⟩:=h
 refine ⟨_,zyb p,fun G ι Ω H σ ρ D w r h=>?_⟩
 exact s G ι Ω H σ ρ _ w r (zb6.sM h r fun a Ω1 v H1 G1 ι1 x1 w1 d1 h1=>h1 σ H1 G1 ι1 (Ext.refl _ _) w1 (r.ext x1) v d1)
@[simp] def sIf (c:Ev→Mo Bool) (f g:MS):MS:=fun ρ=>sM (c ρ) ρ fun b Ω=>if b then f ρ Ω else g ρ Ω
theorem zdJ {c:Expr} {a b:List Stmt} {fc:Ev→Mo Bool} (hc:VT X W c fc) (h1:VSs X W a f) (h2:VSs X W b g):VS X W (.If c a b pos) (sIf fc f g):=by
 obtain ⟨t0,p0,s0⟩:=hc
 obtain ⟨t,p1,s1⟩:=h1
 obtain ⟨u,p2,s2⟩:=h2
 refine ⟨_,zz6 p0 p1 p2,fun G ι Ω H σ ρ D w r h=>?_⟩
 refine s0 G ι Ω H σ ρ _ w r (zb6.sM h r fun c Ω1 c' H1 G1 ι1 x1 w1 d1 h1=>?_)
 cases (show c'=c from d1)
 cases c with
 | true=>exact s1 G1 ι1 Ω1 H1 σ ρ D w1 (r.ext x1) h1
 | false=>exact s2 G1 ι1 Ω1 H1 σ ρ D w1 (r.ext x1) h1
@[simp] def gN (i:Nat):A→MS:=fun a ρ Ω=>some (.nx,ρ.set i (some a),Ω)
theorem zaM {i:Nat} {x:Str} (hN:X.N.Nodup) (hi:X.N[i]? = some x) (hx:Loc X.env.scope x) (hf:X.fn x=true∨X.env.scope.names.lookup x=some .local:=by first | exact .inl rfl | exact .inr rfl | assumption):VG X W (.Name x pos) (gN i) :=
 ⟨_,zvu hN hi hx hf,fun _ _ _ _ _ _ _ _ _ w r d h=>zmB w (r.set i d) h⟩
@[simp] def zeF:List A→MS:=fun as ρ Ω=>match as with
 | []=>some (.nx,ρ,Ω)
 | _=>none
@[simp] def zaG (g:A→MS) (gs:List A→MS):List A→MS:=fun as=>match as with
 | a :: r=>sSeq (g a) (gs r)
 | []=>fun _ _=>none
theorem zfh:VGs X W [] zeF:=⟨_,zwW,fun G ι Ω H σ ρ vs as D w r d h=>by
 cases as with
 | nil=>rw [zdx] at d;exact ⟨d,zmB w r h⟩
 | cons=>exact False.elim h⟩
theorem zbd {es:List Expr} {g:A→MS} {gs:List A→MS} (h1:VG X W e g) (h2:VGs X W es gs)
  (hs:(assignEach (e :: es) X.env).map (·.2)=assign e X.env :: (assignEach es X.env).map (·.2):=by rfl):VGs X W (e :: es) (zaG g gs):=by
 obtain ⟨t,p1,s1⟩:=h1
 obtain ⟨u,p2,s2⟩:=h2
 refine ⟨_,ztl p1 p2 hs,fun G ι Ω H σ ρ vs as D w r d h=>?_⟩
 cases as with
 | nil=>exact False.elim h
 | cons a as =>
  obtain ⟨x,xs,rfl,d1,d2⟩:=d.zdI
  refine ⟨x,xs,rfl,s1 G ι Ω H σ ρ x a { D with nx:=fun σ' H'=>u xs σ' H' D.nx } w r d1 ?_⟩
  simp only [zaG,sSeq] at h
  revert h
  generalize g a ρ Ω=q
  intro h
  match q,h with
  | some (.nx,ρ1,Ω1),h=>exact fun σ' H' G' ι' x w' r'=>s2 G' ι' Ω1 H' σ' ρ1 xs as D w' r' (d2.ext x) (zb6.ext h x)
  | some (.bk,ρ1,Ω1),h=>exact h
  | some (.ct,ρ1,Ω1),h=>exact h
  | some (.ret a,ρ1,Ω1),h=>exact h
  | some (.exc a,ρ1,Ω1),h=>exact h
@[simp] def zeh (n:Nat) (gs:List A→MS):A→MS:=fun a ρ Ω=>match a with
 | .tup ds=>if ds.length=n then gs ds ρ Ω else none
 | _=>none
theorem zhV {es:List Expr} {k:Nat} {n:Nat} {gs:List A→MS} (hc:X.calm=true) (h:VGs X W es gs)
  (hn:(assignEach es X.env).length=n:=by rfl) (hst:(assignEach es X.env).findIdx? (·.1)=none:=by rfl):VG X W (.Tuple es k pos) (zeh n gs):=by
 obtain ⟨t,p,s⟩:=h
 refine ⟨_,zyX hc p hn hst,fun G ι Ω H σ ρ v a D w r d h=>?_⟩
 unfold zeh at h
 cases a with
 | tup ds =>
  simp only at h
  by_cases hl:ds.length=n
  ·rw [if_pos hl] at h
   simp only [Den] at d
   obtain ⟨p,xs,rfl,h2,h3⟩:=d
   exact ⟨p,xs,rfl,SqT.of (w.sub _ _ h2),by rw [h3.length];exact hl,s G ι Ω H σ ρ xs ds D w r h3 h⟩
  ·rw [if_neg hl] at h;exact False.elim h
 | _=>exact False.elim h
@[simp] def sAsg (fe:Ev→Mo A) (g:A→MS):MS:=fun ρ=>sM (fe ρ) ρ fun a Ω=>g a ρ Ω
theorem zrf {K:PySem.W.Frag} {te:TE} {t:TG} {g:A→MS} (h1:Sim K (Den K) W te fe) (h2:SimG K W t g):SimS K W (tAsg te t) (sAsg fe g):=by
 intro G ι Ω H σ ρ D w r h
 exact h1 G ι Ω H σ ρ _ w r (zb6.sM h r fun a Ω1 v H1 G1 ι1 x1 w1 d1 h1=>h2 G1 ι1 Ω1 H1 σ ρ v a D w1 (r.ext x1) d1 h1)
theorem zy3 {tg:Expr} {g:A→MS} (he:VE X W e fe) (hg:VG X W tg g) (hs:swapsWithSole [tg] e pos.line X.env=pure false:=by rfl) (hw:swappedStores [tg] e X.env=pure none:=by rfl)
  (h1:(assignEach [tg] X.env).map (·.2)=[assign tg X.env]:=by rfl):VS X W (.Assign [tg] e pos) (sAsg fe g):=by
 obtain ⟨t,p1,s1⟩:=he
 obtain ⟨u,p2,s2⟩:=hg
 exact ⟨_,zxU p1 p2 hs hw h1,zrf s1 s2⟩
theorem zaw {i:Nat} {x:Str} {pos':Pos} (hN:X.N.Nodup) (hi:X.N[i]? = some x) (hx:Loc X.env.scope x) (he:VE X W e fe) (hs:swapsWith e (some (.Name x pos')) pos.line X.env=pure false:=by rfl) (hf:X.fn x=true∨X.env.scope.names.lookup x=some .local:=by first | exact .inl rfl | exact .inr rfl | assumption) :
  VS X W (.Assign [.Name x pos'] e pos) (sAsg fe (gN i)):=by
 obtain ⟨t,p1,s1⟩:=he
 exact ⟨_,zxs hN hi hx p1 hs hf,zrf s1 fun _ _ _ _ _ _ _ _ _ w r d h=>zmB w (r.set i d) h⟩
structure Src where
 ds:List A
 ok:Sto→Prop
structure ItV (K:PySem.W.Frag) (G:Hp) (ι:List Addr) (J:It) (S:Src):Prop where
 go:∀ G' ι' Ω' H',Ext G ι G' ι'→Wd K G' ι' Ω' H'→S.ok Ω'→∀ i,i < S.ds.length→J.go i H'
 stop:∀ G' ι' Ω' H',Ext G ι G' ι'→Wd K G' ι' Ω' H'→S.ok Ω'→∀ i,S.ds.length ≤ i→J.stop i H'
 yld:∀ G' ι' Ω' H',Ext G ι G' ι'→Wd K G' ι' Ω' H'→S.ok Ω'→∀ i x H2 d,S.ds[i]? = some d→J.yld i H' x H2→∃ G2,Ext G' ι' G2 ι'∧Wd K G2 ι' Ω' H2∧Den K G2 ι' x d
def relI (K:PySem.W.Frag):Rl Src It:=fun G ι J S=>ItV K G ι J S
theorem ItV.ext {K:PySem.W.Frag} {G G1:Hp} {ι ι1:List Addr} {J:It} {S:Src} (h:ItV K G ι J S) (e:Ext G ι G1 ι1):ItV K G1 ι1 J S :=
 ⟨fun G' ι' Ω' H' x=>h.go G' ι' Ω' H' (e.trans x),fun G' ι' Ω' H' x=>h.stop G' ι' Ω' H' (e.trans x),fun G' ι' Ω' H' x=>h.yld G' ι' Ω' H' (e.trans x)⟩
def VI (X:Cx) (W:WX) (tg iter:Expr) (f:Ev→Mo Src):Prop:=∃ t,PI X tg iter t∧Sim X.K (relI X.K) W t f
open Classical in
noncomputable def fFor (ok:Sto→Prop) (g:A→MS) (b:MS):List A→MS
 | [],ρ,Ω=>if ok Ω then some (.nx,ρ,Ω) else none
 | x :: xs,ρ,Ω=>if ok Ω then (match g x ρ Ω with
  | some (.nx,ρ0,Ω0)=>(match b ρ0 Ω0 with
   | some (.nx,ρ1,Ω1)=>fFor ok g b xs ρ1 Ω1
   | some (.ct,ρ1,Ω1)=>fFor ok g b xs ρ1 Ω1
   | some (.bk,ρ1,Ω1)=>some (.nx,ρ1,Ω1)
   | r=>r)
  | some (.exc e,ρ0,Ω0)=>some (.exc e,ρ0,Ω0)
  | _=>none) else none
@[simp] noncomputable def sFor (fi:Ev→Mo Src) (g:A→MS) (b:MS):MS:=fun ρ=>sM (fi ρ) ρ fun S Ω=>fFor S.ok g b S.ds ρ Ω
theorem zw7 {K:PySem.W.Frag} {G:Hp} {ι:List Addr} {D:Ends} {ok:Sto→Prop} {g:A→MS} {b:MS} {xs:List A} {ρ:Ev} {Ω:Sto} (h:zb6 K W G ι D (fFor ok g b xs ρ Ω)):ok Ω:=by
 cases xs with
 | nil =>
  unfold fFor at h
  by_cases hp:ok Ω
  ·exact hp
  ·rw [if_neg hp] at h;exact False.elim h
 | cons =>
  unfold fFor at h
  by_cases hp:ok Ω
  ·exact hp
  ·rw [if_neg hp] at h;exact False.elim h
theorem zw4 {K:PySem.W.Frag} {wi:TI} {tg:TG} {tb:TS} {fi:Ev→Mo Src} {g:A→MS} {b:MS} (hi:Sim K (relI K) W wi fi) (hg:SimG K W tg g) (hb:SimS K W tb b):SimS K W (tFor wi tg tb) (sFor fi g b):=by
 intro G ι Ω H σ ρ D w r h
 refine hi G ι Ω H σ ρ _ w r (zb6.sM h r fun S Ω1 J H1 G1 ι1 x1 w1 j1 h1=>?_)
 refine ⟨fun i m σ' H'=>m=S.ds.length - i∧i ≤ S.ds.length∧∃ G' ι' Ω' ρ',Ext G1 ι1 G' ι'∧Wd K G' ι' Ω' H'∧EnvR K G' ι' σ' ρ'∧zb6 K W G' ι' D (fFor S.ok g b (S.ds.drop i) ρ' Ω'),
  ⟨_,rfl,Nat.zero_le _,G1,ι1,Ω1,ρ,Ext.refl _ _,w1,r.ext x1,by simpa using h1⟩,?_⟩
 rintro i m σ' H' ⟨rfl,hil,G',ι',Ω',ρ',e',w',r',h'⟩
 have hok:=zw7 h'
 by_cases hlt:i < S.ds.length
 ·right
  refine ⟨j1.go G' ι' Ω' H' e' w' hok i hlt,fun σ2 H2=>∃ G2 ι2 Ω2 ρ2,Ext G1 ι1 G2 ι2∧Wd K G2 ι2 Ω2 H2∧EnvR K G2 ι2 σ2 ρ2∧zb6 K W G2 ι2 D (fFor S.ok g b (S.ds.drop (i + 1)) ρ2 Ω2),fun σ2 H2 n=>?_,fun x H2 y=>?_⟩
  ·exact ⟨S.ds.length - (i + 1),by omega,rfl,hlt,n⟩
  ·obtain ⟨G2,e2,w2,d2⟩:=j1.yld G' ι' Ω' H' e' w' hok i x H2 S.ds[i] (List.getElem?_eq_getElem hlt) y
   rw [List.drop_eq_getElem_cons hlt] at h'
   unfold fFor at h'
   rw [if_pos hok] at h'
   refine hg G2 ι' Ω' H2 σ' ρ' x S.ds[i] { D with nx:=fun σ3 H3=>tb _ σ3 H3 } w2 (r'.ext e2) d2 ?_
   revert h'
   generalize g S.ds[i] ρ' Ω'=q
   intro h'
   match q,h' with
   | some (.nx,ρ3,Ω3),h' =>
    intro σ3 H3 G3 ι3 x3 w3 r3
    refine hb G3 ι3 Ω3 H3 σ3 ρ3 _ w3 r3 ?_
    simp only at h'
    revert h'
    generalize b ρ3 Ω3=q2
    intro h'
    match q2,h' with
    | some (.nx,ρ4,Ω4),h'=>exact fun σ4 H4 G4 ι4 x4 w4 r4=>⟨G4,ι4,Ω4,ρ4,(e'.trans (e2.trans x3)).trans x4,w4,r4,zb6.ext h' ((e2.trans x3).trans x4)⟩
    | some (.ct,ρ4,Ω4),h'=>exact fun σ4 H4 G4 ι4 x4 w4 r4=>⟨G4,ι4,Ω4,ρ4,(e'.trans (e2.trans x3)).trans x4,w4,r4,zb6.ext h' ((e2.trans x3).trans x4)⟩
    | some (.bk,ρ4,Ω4),h'=>exact fun σ4 H4 G4 ι4 x4 w4 r4=>h' σ4 H4 G4 ι4 ((e2.trans x3).trans x4) w4 r4
    | some (.ret a,ρ4,Ω4),h'=>exact fun σ4 H4 G4 ι4 x4 w4 r4=>h' σ4 H4 G4 ι4 ((e2.trans x3).trans x4) w4 r4
    | some (.exc a,ρ4,Ω4),h'=>exact fun σ4 H4 G4 ι4 x4 w4 r4=>h' σ4 H4 G4 ι4 ((e2.trans x3).trans x4) w4 r4
   | some (.exc a,ρ3,Ω3),h'=>exact fun σ4 H4 G4 ι4 x4 w4 r4=>h' σ4 H4 G4 ι4 (e2.trans x4) w4 r4
 ·have hie:i=S.ds.length:=by omega
  subst hie
  left
  rw [List.drop_length] at h'
  unfold fFor at h'
  rw [if_pos hok] at h'
  exact ⟨j1.stop G' ι' Ω' H' e' w' hok _ (Nat.le_refl _),zmB w' r' h'⟩
theorem ze7 {tg iter:Expr} {body:List Stmt} {fi:Ev→Mo Src} {g:A→MS} {b:MS} (hp:PassesOwn (model X.prog X.w) X.A X.env X.xe) (hc:X.calm=true) (hi:VI X W tg iter fi) (hg:VG X W tg g) (hb:VSs X W body b)
  (hs:∀ x,foldedSetIterable iter X.env x=pure x:=by intro _;rfl):VS X W (.For tg iter body [] pos) (sFor fi g b):=by
 obtain ⟨t1,p1,s1⟩:=hi
 obtain ⟨t2,p2,s2⟩:=hg
 obtain ⟨t3,p3,s3⟩:=hb
 exact ⟨_,zza hp hc p1 p2 p3 hs,zw4 s1 s2 s3⟩
@[simp] def srcOf (a:A) (ds:List A):Src:=⟨ds,fun Ω=>zbl Ω a=some ds⟩
theorem zmP {Ω:Sto} {a:A} {ds:List A} (h:zbl Ω a=some ds) (ha:∀ es,a ≠ .tup es):zaD Ω a=some ds:=by
 cases a with
 | tup es=>exact absurd rfl (ha es)
 | _=>exact h
theorem zxY {tg l:Expr} {tl:TE} (hl:PE X l tl):PI X tg l (fun σ H R=>tl σ H fun x H1=>∃ a,x = .ref a∧(((∃ xs,SqL X.K H1 a xs)∧R (Itl X.K a) H1)∨((∃ xs,SqT X.K H1 a xs)∧R (Itt X.K a) H1))):=by
 intro pins s σ H R I h
 refine thn (hl pins s σ H _ I h) fun v s1 ⟨x,H1,I1,r1,q1⟩=>?_
 obtain ⟨a,e,q⟩:=q1
 subst e
 cases r1
 rcases q with ⟨⟨xs,hq⟩,q⟩ | ⟨⟨xs,hq⟩,q⟩
 ·obtain ⟨its,rv,p,hz⟩:=I1.list hq
  refine wpAny_pyIter_list p.isList ?_
  refine ⟨s1.heap.objs.size,[s1.heap.objs.size],_,_,H1,rfl,I1.kept (t':=s1.toks) fun b o e=>Heap.get?_push_of_some _ e,zsT a _,⟨_,Heap.get?_push_size _ rfl,rfl,rfl⟩,fun b hb=>?_,q⟩
  have e:b=s1.heap.objs.size:=by simpa using hb
  subst e
  exact I1.fpOk (Nat.le_refl _) (I1.hok.fresh (Nat.le_refl _))
 ·obtain ⟨its,rv,p,hz⟩:=I1.tuple hq
  refine wpAny_pyIter_tuple (show s1.heap.IsTuple a its.toArray from p) ?_
  refine ⟨s1.heap.objs.size,[s1.heap.objs.size],_,_,H1,rfl,I1.kept (t':=s1.toks) fun b o e=>Heap.get?_push_of_some _ e,zpj a _,⟨_,Heap.get?_push_size _ rfl,rfl,rfl⟩,fun b hb=>?_,q⟩
  have e:b=s1.heap.objs.size:=by simpa using hb
  subst e
  exact I1.fpOk (Nat.le_refl _) (I1.hok.fresh (Nat.le_refl _))
@[simp] def vSeq (f:Ev→Mo A):Ev→Mo Src:=fun ρ=>mb (f ρ) fun a Ω=>match zbl Ω a with
 | some ds=>some (.ok (srcOf a ds),Ω)
 | none=>none
theorem zvY {K:PySem.W.Frag} {G:Hp} {ι:List Addr} {p:Addr} {a:A} {ds:List A} (d:Den K G ι (.ref p) a) (ha:∀ es,a ≠ .tup es):ItV K G ι (Itl K p) (srcOf a ds):=by
 have key:∀ G' ι' Ω' H',Ext G ι G' ι'→Wd K G' ι' Ω' H'→zbl Ω' a=some ds→∃ xs,SqL K H' p xs∧DenL K G' ι' xs ds:=fun G' ι' Ω' H' e w h=>by
  obtain ⟨q,xs,h1,h2,h3⟩:=zco w (d.ext e) (zmP h ha)
  cases h1
  exact ⟨xs,h2,h3⟩
 refine ⟨fun G' ι' Ω' H' e w h i hi=>?_,fun G' ι' Ω' H' e w h i hi=>?_,fun G' ι' Ω' H' e w h i x H2 y hy hd=>?_⟩
 ·obtain ⟨xs,h2,h3⟩:=key G' ι' Ω' H' e w h
  have hl:i < xs.length:=by rw [h3.length];exact hi
  exact ⟨xs,xs[i],h2,List.getElem?_eq_getElem hl⟩
 ·obtain ⟨xs,h2,h3⟩:=key G' ι' Ω' H' e w h
  exact ⟨xs,h2,by rw [h3.length];exact hi⟩
 ·obtain ⟨xs,h2,h3⟩:=key G' ι' Ω' H' e w h
  obtain ⟨e1,e2⟩:=hd
  subst e1
  obtain ⟨z,q1,q2⟩:=h3.get hy
  rw [e2 xs h2] at q1
  cases q1
  exact ⟨G',Ext.refl _ _,w,q2⟩
theorem zvJ {K:PySem.W.Frag} {G:Hp} {ι:List Addr} {p:Addr} {ds es:List A} (d:Den K G ι (.ref p) (.tup es)):ItV K G ι (Itt K p) (srcOf (.tup es) ds):=by
 have key:∀ G' ι' Ω' H',Ext G ι G' ι'→Wd K G' ι' Ω' H'→zbl Ω' (.tup es)=some ds→∃ xs,SqT K H' p xs∧DenL K G' ι' xs ds:=fun G' ι' Ω' H' e w h=>by
  simp only [zbl,Option.some.injEq] at h
  subst h
  have d':=d.ext e
  simp only [Den] at d'
  obtain ⟨q,xs,h1,h2,h3⟩:=d'
  cases h1
  exact ⟨xs,SqT.of (w.sub _ _ h2),h3⟩
 refine ⟨fun G' ι' Ω' H' e w h i hi=>?_,fun G' ι' Ω' H' e w h i hi=>?_,fun G' ι' Ω' H' e w h i x H2 y hy hd=>?_⟩
 ·obtain ⟨xs,h2,h3⟩:=key G' ι' Ω' H' e w h
  have hl:i < xs.length:=by rw [h3.length];exact hi
  exact ⟨xs,xs[i],h2,List.getElem?_eq_getElem hl⟩
 ·obtain ⟨xs,h2,h3⟩:=key G' ι' Ω' H' e w h
  exact ⟨xs,h2,by rw [h3.length];exact hi⟩
 ·obtain ⟨xs,h2,h3⟩:=key G' ι' Ω' H' e w h
  obtain ⟨e1,e2⟩:=hd
  subst e1
  obtain ⟨z,q1,q2⟩:=h3.get hy
  rw [e2 xs h2] at q1
  cases q1
  exact ⟨G',Ext.refl _ _,w,q2⟩
theorem ze2 {tg l:Expr} {fe:Ev→Mo A} (h:VE X W l fe):VI X W tg l (vSeq fe):=by
 obtain ⟨t,p,s⟩:=h
 refine ⟨_,zxY p,fun G ι Ω H σ ρ R w r h=>?_⟩
 refine s G ι Ω H σ ρ _ w r (Post.mb h fun a Ω1 v H1 G1 ι1 x1 w1 d1 h1=>?_)
 cases e:zbl Ω1 a with
 | none=>simp only [e] at h1;exact False.elim h1
 | some ds =>
  simp only [e] at h1
  obtain ⟨q,xs,h2,h3,h4⟩:=zj6 w1 d1 e
  subst h2
  refine ⟨q,rfl,?_⟩
  cases a with
  | tup es =>
   right
   simp only [Den] at d1
   obtain ⟨q',xs',e1,e2,e3⟩:=id d1
   cases e1
   exact ⟨⟨_,SqT.of (w1.sub _ _ e2)⟩,h1 _ H1 G1 ι1 (Ext.refl _ _) w1 (zvJ (by simpa only [Den] using d1))⟩
  | _ =>
   left
   obtain ⟨q',xs',e1,e2,e3⟩:=zco w1 d1 (zmP e (by intro _ z;cases z))
   cases e1
   exact ⟨⟨_,e2⟩,h1 _ H1 G1 ι1 (Ext.refl _ _) w1 (zvY d1 (by intro _ z;cases z))⟩
@[simp] def zgs (lo:Int) (n:Nat):Src:=⟨(List.range n).map fun (i:Nat)=>A.int (lo + (i:Int)),fun _=>True⟩
def zfV (i:Int):Prop:=-(2 ^ 62) ≤ i∧i < 2 ^ 62
instance (i:Int):Decidable (zfV i):=by unfold zfV;infer_instance
theorem zxf {K:PySem.W.Frag} {G:Hp} {ι:List Addr} {lo:Int} {n:Nat}:ItV K G ι (Itr lo n) (zgs lo n):=by
 refine ⟨fun _ _ _ _ _ _ _ i hi=>show i < n by simpa [zgs] using hi,fun _ _ _ _ _ _ _ i hi=>show n ≤ i by simpa [zgs] using hi,fun G' ι' Ω' H' e w h i x H2 y hy hd=>?_⟩
 obtain ⟨e1,e2⟩:=hd
 subst e1 e2
 refine ⟨G',Ext.refl _ _,w,?_⟩
 simp only [zgs,List.getElem?_map] at hy
 cases e:(List.range n)[i]? with
 | none=>rw [e] at hy;cases hy
 | some j =>
  rw [e] at hy
  cases hy
  have:=(List.getElem?_eq_some_iff.mp e).2
  simp at this
  subst this
  simp only [Den]
@[simp] def zok (f:Ev→Mo (List A)):Ev→Mo Src:=fun ρ=>mb (f ρ) fun as=>match as with
 | [.int j]=>mb (chk (zfV j)) fun _=>ret (zgs 0 j.toNat)
 | _=>stuck
theorem zjX {tg a:Expr} {fs:Ev→Mo (List A)} {p:Pos} (hg:Gl X "range") (hm:X.mg "range" = none) (ha:VA X W [a] fs) (hs:starEach [a] X.env=[(false,eval a X.env)]:=by rfl):VI X W tg (.Call (.Name "range" p) [a] [] pos) (zok fs):=by
 obtain ⟨t,p,s⟩:=ha
 refine ⟨_,zqT hg hm p hs,fun G ι Ω H σ ρ R w r h=>?_⟩
 refine s G ι Ω H σ ρ _ w r (Post.mb h fun as Ω1 vs H1 G1 ι1 x1 w1 d1 h1=>?_)
 split at h1
 ·rename_i j
  obtain ⟨v,t,rfl,q1,q2⟩:=d1.zdI
  rw [zdx] at q2;subst q2
  simp only [Den] at q1;subst q1
  obtain ⟨hc,h2⟩:=Post.chk h1
  exact ⟨j,rfl,hc.1,hc.2,zbY w1 zxf h2⟩
 ·exact False.elim h1
end
end V2
namespace V2
open PySem PySem.Spec PyProof.Rows L2
section
variable {X:Cx} {W:WX} {e a b:Expr} {es:List Expr} {pos:Pos} {fa fb:Ev→Mo A} {fs:Ev→Mo (List A)}
@[simp] def gIx (a i:A):Mo A:=fun Ω=>match zbl Ω a,i with
 | some ds, .int n=>match atI ds n with
  | some d=>some (.ok d,Ω)
  | none=>none
 | _,_=>none
theorem zvq {K:PySem.W.Frag} {G:Hp} {ι:List Addr} {xs:List V} {ds:List A} {n:Int} {d:A} (h:DenL K G ι xs ds) (e:atI ds n=some d):∃ x,atI xs n=some x∧Den K G ι x d:=by
 unfold atI at e ⊢
 rw [h.length]
 cases q:ixN ds.length n with
 | none=>rw [q] at e;cases e
 | some j=>rw [q] at e;exact h.get e
theorem zcn (ha:VE X W a fa) (hb:VE X W b fb) (hs:zrt b):VE X W (.Subscript a b pos) (vOp gIx fa fb):=by
 obtain ⟨t,p1,s1⟩:=ha
 obtain ⟨u,p2,s2⟩:=hb
 refine ⟨_,zzy zxM p1 p2 hs,zo1 ?_ s1 s2⟩
 intro G ι Ω H σ x y a i Q w d1 d2 h
 unfold gIx at h
 split at h
 ·rename_i ds n e1
  split at h
  ·rename_i d e
   simp only [Den] at d2
   have fin:∀ v,Den X.K G ι v d→Q v H:=fun v hv=>h v H G ι (Ext.refl _ _) w hv
   obtain ⟨p,xs,rfl,hq,hd⟩:=zj6 w d1 e1
   obtain ⟨v,q1,q2⟩:=zvq hd e
   rcases hq with hq | hq
   ·exact .inl ⟨p,xs,n,v,rfl,d2,hq,q1,fin v q2⟩
   ·exact .inr (.inl ⟨p,xs,n,v,rfl,d2,hq,q1,fin v q2⟩)
  ·exact False.elim h
 ·exact False.elim h
def VO (X:Cx) (W:WX) (e:Option Expr) (f:Ev→Mo (Option Int)):Prop:=∃ t,PO X e t∧Sim X.K (fun _ _ o o'=>o=o') W t f
theorem zn4:VO X W none (fun _=>ret none):=⟨_,zvL,fun _ _ _ _ _ _ _ w _ q=>zbY w rfl q⟩
@[simp] def ziw (f:Ev→Mo A):Ev→Mo (Option Int):=fun ρ=>mb (f ρ) fun x=>match x with
 | .int i=>ret (some i)
 | _=>stuck
theorem znx (h:VE X W e fa):VO X W (some e) (ziw fa):=by
 obtain ⟨t,p,s⟩:=h
 refine ⟨_,zvD p,fun G ι Ω H σ ρ Q w r h=>?_⟩
 refine s G ι Ω H σ ρ _ w r (Post.mb h fun x Ω1 v H1 G1 ι1 x1 w1 d1 h1=>?_)
 cases x with
 | int i=>simp only [Den] at d1;exact ⟨i,d1,zbY w1 rfl h1⟩
 | _=>exact False.elim h1
def cutA (ds:List A) (lo hi:Option Int):List A:=(ds.drop (HT.sIx ds.length 0 lo)).take (HT.sIx ds.length ds.length hi - HT.sIx ds.length 0 lo)
theorem zqF {K:PySem.W.Frag} {G:Hp} {ι:List Addr} {xs:List V} {ds:List A} (h:DenL K G ι xs ds) (lo hi:Option Int):DenL K G ι (cutV xs lo hi) (cutA ds lo hi):=by
 unfold cutV cutA
 rw [h.length]
 exact (h.drop _).take _
@[simp] def gSl (c:Bool) (a:A) (lo hi:Option Int):Mo A:=fun Ω=>match a with
 | .tup ds=>if HT.sIx ds.length 0 lo=0∧HT.sIx ds.length ds.length hi=ds.length then none else some (.ok (.tup (cutA ds lo hi)),Ω)
 | a=>match zaD Ω a with
  | some ds=>mkL c (cutA ds lo hi) Ω
  | none=>none
@[simp] def vSl (c:Bool) (f:Ev→Mo A) (l h:Ev→Mo (Option Int)):Ev→Mo A:=fun ρ=>mb (f ρ) fun a=>mb (l ρ) fun lo=>mb (h ρ) fun hi=>gSl c a lo hi
theorem zlH (c:Bool) {lo hi:Option Expr} {fl fh:Ev→Mo (Option Int)} {p2:Pos} (he:VE X W e fa) (hl:VO X W lo fl) (hh:VO X W hi fh):VE X W (.Subscript e (.Slice lo hi none p2) pos) (vSl c fa fl fh):=by
 obtain ⟨t,p1,s1⟩:=he
 obtain ⟨u,p2,s2⟩:=hl
 obtain ⟨u',p3,s3⟩:=hh
 refine ⟨_,ztz (zvv.or zxS) p1 p2 p3,fun G ι Ω H σ ρ Q w r h=>?_⟩
 refine s1 G ι Ω H σ ρ _ w r (Post.mb h fun x Ω1 v H1 G1 ι1 x1 w1 d1 h1=>?_)
 refine s2 G1 ι1 Ω1 H1 σ ρ _ w1 (r.ext x1) (Post.mb h1 fun o Ω2 o' H2 G2 ι2 x2 w2 d2 h2=>?_)
 cases (show o'=o from d2)
 refine s3 G2 ι2 Ω2 H2 σ ρ _ w2 ((r.ext x1).ext x2) (Post.mb h2 fun k Ω3 k' H3 G3 ι3 x3 w3 d3 h3=>?_)
 cases (show k'=k from d3)
 have d:=d1.ext (x2.trans x3)
 unfold gSl at h3
 cases x with
 | tup ds =>
  simp only at h3
  split at h3
  ·exact False.elim h3
  ·rename_i hn
   simp only [Den] at d
   obtain ⟨p,xs,rfl,q2,q3⟩:=d
   exact .inr ⟨p,xs,rfl,SqT.of (w3.sub _ _ q2),by rw [q3.length];exact hn,fun l hl=>zsr w3 hl (zqF q3 o k) h3⟩
 | _ =>
  simp only at h3
  split at h3
  ·rename_i ds e
   obtain ⟨p,xs,rfl,q2,q3⟩:=zco w3 d e
   exact .inl ⟨p,xs,rfl,q2,fun l hl=>zov w3 hl (zqF q3 o k) h3⟩
  ·exact False.elim h3
def zyM (K:PySem.W.Frag) (W:WX) (r:List V→Hp→VK→Prop) (g:List A→Mo A):Prop :=
 ∀ G ι Ω H σ xs as Q,Wd K G ι Ω H→DenL K G ι xs as→Post K (Den K) W G ι σ Q (g as Ω)→r xs H Q
def zhJ (X:Cx) (W:WX) (f:Value) (g:List A→Mo A):Prop:=∃ r,zhD X f r∧zyM X.K W r g
@[simp] def vCl (g:List A→Mo A) (f:Ev→Mo (List A)):Ev→Mo A:=fun ρ=>mb (f ρ) g
theorem zxB {K:PySem.W.Frag} {r:List V→Hp→VK→Prop} {g:List A→Mo A} {t:TA} (hg:zyM K W r g) (h:Sim K (DenL K) W t fs):Sim K (Den K) W (tCB r t) (vCl g fs):=by
 intro G ι Ω H σ ρ Q w q h2
 exact h G ι Ω H σ ρ _ w q (Post.mb h2 fun as Ω1 vs H1 G1 ι1 x1 w1 d1 h1=>hg G1 ι1 Ω1 H1 σ vs as Q w1 d1 h1)
theorem zax {id:String} {x:Str} {g:List A→Mo A} {p:Pos} (hc:zhJ X W (.builtin id) g) (hg:Gl X x) (hm:X.mg x=none) (hv:bootBuiltins x=some (.builtin id)) (ha:VA X W (e :: es) fs) (hn:x ≠ "__name__":=by decide) (hdb:(x == ("__debug__" : Str))=false:=by decide)
  (he:starEach (e :: es) X.env=(false,eval e X.env) :: starEach es X.env:=by rfl) (hpl:(backTo pos (starEach es X.env)).any (·.1)=false:=by rfl):VE X W (.Call (.Name x p) (e :: es) [] pos) (vCl g fs):=by
 obtain ⟨r,c1,c2⟩:=hc
 obtain ⟨t,p1,s1⟩:=ha
 exact ⟨_,zuA c1 hg hm hv p1 hn hdb he hpl,zxB c2 s1⟩
theorem den1 {K:PySem.W.Frag} {G:Hp} {ι:List Addr} {xs:List V} {d:A} (h:DenL K G ι xs [d]):∃ x,xs=[x]∧Den K G ι x d:=by
 obtain ⟨x,r,rfl,h1,h2⟩:=h.zdI
 rw [zdx] at h2;subst h2
 exact ⟨x,rfl,h1⟩
theorem den2 {K:PySem.W.Frag} {G:Hp} {ι:List Addr} {xs:List V} {d d':A} (h:DenL K G ι xs [d,d']):∃ x y,xs=[x,y]∧Den K G ι x d∧Den K G ι y d':=by
 obtain ⟨x,r,rfl,h1,h2⟩:=h.zdI
 obtain ⟨y,rfl,h3⟩:=den1 h2
 exact ⟨x,y,rfl,h1,h3⟩
@[simp] def gLen (as:List A):Mo A:=fun Ω=>match as with
 | [a]=>(match zbl Ω a with
  | some ds=>some (.ok (.int ds.length),Ω)
  | none=>none)
 | _=>none
theorem zgI:zhJ X W (.builtin "len") gLen:=by
 refine ⟨_,zmV,?_⟩
 intro G ι Ω H σ xs as Q w d h
 unfold gLen at h
 split at h
 ·rename_i a
  split at h
  ·rename_i ds e
   obtain ⟨x,rfl,d1⟩:=den1 d
   obtain ⟨p,ys,rfl,h2,h3⟩:=zj6 w d1 e
   exact ⟨p,ys,rfl,h2,h _ H G ι (Ext.refl _ _) w (by simp only [Den,h3.length])⟩
  ·exact False.elim h
 ·exact False.elim h
@[simp] def zmO (as:List A):Mo A:=match as with
 | [.int i, .int j]=>ret (.int (max i j))
 | _=>stuck
@[simp] def zhF (as:List A):Mo A:=match as with
 | [.int i, .int j]=>ret (.int (min i j))
 | _=>stuck
theorem zmC (hc:X.calm=true):zhJ X W (.builtin "max") zmO:=by
 refine ⟨_,zrW hc,?_⟩
 intro G ι Ω H σ xs as Q w d h
 unfold zmO at h
 split at h
 ·rename_i i j
  obtain ⟨x,y,rfl,d1,d2⟩:=den2 d
  simp only [Den] at d1 d2;subst d1 d2
  refine ⟨i,j,rfl,?_⟩
  have e:(if j > i then j else i)=max i j:=by split <;> omega
  rw [e]
  exact zbY w (by simp only [Den]) h
 ·exact False.elim h
theorem zmR (hc:X.calm=true):zhJ X W (.builtin "min") zhF:=by
 refine ⟨_,zqt hc,?_⟩
 intro G ι Ω H σ xs as Q w d h
 unfold zhF at h
 split at h
 ·rename_i i j
  obtain ⟨x,y,rfl,d1,d2⟩:=den2 d
  simp only [Den] at d1 d2;subst d1 d2
  refine ⟨i,j,rfl,?_⟩
  have e:(if j < i then j else i)=min i j:=by split <;> omega
  rw [e]
  exact zbY w (by simp only [Den]) h
 ·exact False.elim h
def intsOf:List A→Option (List Int)
 | []=>some []
 | .int i :: r=>(intsOf r).map (i :: ·)
 | _=>none
theorem zjw {K:PySem.W.Frag} {G:Hp} {ι:List Addr}:∀ {ds:List A} {xs:List V} {ns:List Int},intsOf ds=some ns→DenL K G ι xs ds→xs=ns.map V.int
 | [],xs,ns,h,d=>by
  simp only [intsOf,Option.some.injEq] at h;subst h
  rw [zdx] at d;subst d;rfl
 | a :: ds,xs,ns,h,d=>by
  obtain ⟨x,t,rfl,d1,d2⟩:=d.zdI
  cases a with
  | int i =>
   simp only [intsOf,Option.map_eq_some_iff] at h
   obtain ⟨ms,h1,rfl⟩:=h
   simp only [Den] at d1;subst d1
   rw [zjw h1 d2];rfl
  | _=>simp [intsOf] at h
theorem zkO (ns:List Int):intsOf (ns.map A.int)=some ns:=by
 induction ns with
 | nil=>rfl
 | cons n ns ih=>simp [intsOf,ih]
@[simp] def gSum (as:List A):Mo A:=fun Ω=>match as with
 | [a]=>(match (zaD Ω a).bind intsOf with
  | some ns=>some (.ok (.int ns.sum),Ω)
  | none=>none)
 | _=>none
theorem zwk (hc:X.calm=true):zhJ X W (.builtin "sum") gSum:=by
 refine ⟨_,zuE hc,?_⟩
 intro G ι Ω H σ xs as Q w d h
 unfold gSum at h
 split at h
 ·rename_i a
  split at h
  ·rename_i ns e
   obtain ⟨x,rfl,d1⟩:=den1 d
   rw [Option.bind_eq_some_iff] at e
   obtain ⟨ds,e1,e2⟩:=e
   obtain ⟨p,ys,rfl,h2,h3⟩:=zco w d1 e1
   rw [zjw e2 h3] at h2
   exact ⟨p,ns,rfl,h2,h _ H G ι (Ext.refl _ _) w (by simp only [Den])⟩
  ·exact False.elim h
 ·exact False.elim h
def tyA (Ω:Sto):A→Option String
 | .int _=>some "int"
 | .bl _=>some "bool"
 | .str _=>some "str"
 | .non=>some "NoneType"
 | .tup _=>some "tuple"
 | .lst _=>some "list"
 | .cel k=>match Ω[k]? with
  | some (.lst _)=>some "list"
  | some (.dct _)=>some "dict"
  | _=>none
 | _=>none
theorem zx6 {K:PySem.W.Frag} {G H:Hp} {ι:List Addr} {Ω:Sto} {v:V} {a:A} {t:String} (w:Wd K G ι Ω H) (d:Den K G ι v a) (h:tyA Ω a=some t):TyOf K H v (.type t):=by
 cases a with
 | int i=>simp only [tyA,Option.some.injEq] at h;subst h;simp only [Den] at d;subst d;exact .int i
 | bl i=>simp only [tyA,Option.some.injEq] at h;subst h;simp only [Den] at d;subst d;exact .bl i
 | str i=>simp only [tyA,Option.some.injEq] at h;subst h;simp only [Den] at d;subst d;exact .str i
 | non=>simp only [tyA,Option.some.injEq] at h;subst h;simp only [Den] at d;subst d;exact .non
 | tup ds=>simp only [tyA,Option.some.injEq] at h;subst h;simp only [Den] at d;obtain ⟨p,xs,rfl,h2,_⟩:=d;exact .tup (w.sub _ _ h2)
 | lst ds=>simp only [tyA,Option.some.injEq] at h;subst h;simp only [Den] at d;obtain ⟨p,xs,rfl,h2,_⟩:=d;exact .lst (w.sub _ _ h2)
 | cel k =>
  simp only [Den] at d
  obtain ⟨p,rfl,hk⟩:=d
  simp only [tyA] at h
  split at h
  ·rename_i ds e
   cases h
   obtain ⟨g,xs,h3,_⟩:=w.cel k _ p e hk
   exact .lst h3
  ·rename_i ds e
   cases h
   obtain ⟨g,xs,h3,_⟩:=w.cel k _ p e hk
   exact .dK h3
  ·cases h
 | _=>simp [tyA] at h
theorem zhZ (K:PySem.W.Frag):PySem.W.kitOne K (.type "int") (.type "int")=some true:=by unfold PySem.W.kitOne;rw [if_pos (beq_self_eq_true _)]
theorem zg5 (K:PySem.W.Frag):PySem.W.kitOne K (.type "bool") (.type "int")=some true:=by kernel_rfl
theorem zim (K:PySem.W.Frag):PySem.W.kitOne K (.type "str") (.type "int")=some false:=by kernel_rfl
theorem zeg (K:PySem.W.Frag):PySem.W.kitOne K (.type "NoneType") (.type "int")=some false:=by kernel_rfl
theorem zfU (K:PySem.W.Frag):PySem.W.kitOne K (.type "tuple") (.type "int")=some false:=by kernel_rfl
theorem zhy (K:PySem.W.Frag):PySem.W.kitOne K (.type "list") (.type "int")=some false:=by kernel_rfl
theorem zhz (K:PySem.W.Frag):PySem.W.kitOne K (.type "int") (.type "bool")=some false:=by kernel_rfl
theorem zgw (K:PySem.W.Frag):PySem.W.kitOne K (.type "bool") (.type "bool")=some true:=by unfold PySem.W.kitOne;rw [if_pos (beq_self_eq_true _)]
theorem zhr (K:PySem.W.Frag):PySem.W.kitOne K (.type "str") (.type "bool")=some false:=by kernel_rfl
theorem zdP (K:PySem.W.Frag):PySem.W.kitOne K (.type "NoneType") (.type "bool")=some false:=by kernel_rfl
theorem zfI (K:PySem.W.Frag):PySem.W.kitOne K (.type "tuple") (.type "bool")=some false:=by kernel_rfl
theorem zgg (K:PySem.W.Frag):PySem.W.kitOne K (.type "list") (.type "bool")=some false:=by kernel_rfl
theorem zfT (K:PySem.W.Frag):PySem.W.kitOne K (.type "int") (.type "tuple")=some false:=by kernel_rfl
theorem zfv (K:PySem.W.Frag):PySem.W.kitOne K (.type "bool") (.type "tuple")=some false:=by kernel_rfl
theorem zgr (K:PySem.W.Frag):PySem.W.kitOne K (.type "str") (.type "tuple")=some false:=by kernel_rfl
theorem zdp (K:PySem.W.Frag):PySem.W.kitOne K (.type "NoneType") (.type "tuple")=some false:=by kernel_rfl
theorem zeZ (K:PySem.W.Frag):PySem.W.kitOne K (.type "tuple") (.type "tuple")=some true:=by unfold PySem.W.kitOne;rw [if_pos (beq_self_eq_true _)]
theorem zfm (K:PySem.W.Frag):PySem.W.kitOne K (.type "list") (.type "tuple")=some false:=by kernel_rfl
theorem zg3 (K:PySem.W.Frag):PySem.W.kitOne K (.type "int") (.type "list")=some false:=by kernel_rfl
theorem zgn (K:PySem.W.Frag):PySem.W.kitOne K (.type "bool") (.type "list")=some false:=by kernel_rfl
theorem zhk (K:PySem.W.Frag):PySem.W.kitOne K (.type "str") (.type "list")=some false:=by kernel_rfl
theorem zdQ (K:PySem.W.Frag):PySem.W.kitOne K (.type "NoneType") (.type "list")=some false:=by kernel_rfl
theorem zfi (K:PySem.W.Frag):PySem.W.kitOne K (.type "tuple") (.type "list")=some false:=by kernel_rfl
theorem zgq (K:PySem.W.Frag):PySem.W.kitOne K (.type "list") (.type "list")=some true:=by unfold PySem.W.kitOne;rw [if_pos (beq_self_eq_true _)]
theorem zh1 (K:PySem.W.Frag):PySem.W.kitOne K (.type "int") (.type "str")=some false:=by kernel_rfl
theorem zhh (K:PySem.W.Frag):PySem.W.kitOne K (.type "bool") (.type "str")=some false:=by kernel_rfl
theorem zic (K:PySem.W.Frag):PySem.W.kitOne K (.type "str") (.type "str")=some true:=by unfold PySem.W.kitOne;rw [if_pos (beq_self_eq_true _)]
theorem zep (K:PySem.W.Frag):PySem.W.kitOne K (.type "NoneType") (.type "str")=some false:=by kernel_rfl
theorem zf9 (K:PySem.W.Frag):PySem.W.kitOne K (.type "tuple") (.type "str")=some false:=by kernel_rfl
theorem zho (K:PySem.W.Frag):PySem.W.kitOne K (.type "list") (.type "str")=some false:=by kernel_rfl
inductive TyP:String→String→Bool→Prop where
 | zhZ:TyP "int" "int" true
 | zg5:TyP "bool" "int" true
 | zim:TyP "str" "int" false
 | zeg:TyP "NoneType" "int" false
 | zfU:TyP "tuple" "int" false
 | zhy:TyP "list" "int" false
 | zhz:TyP "int" "bool" false
 | zgw:TyP "bool" "bool" true
 | zhr:TyP "str" "bool" false
 | zdP:TyP "NoneType" "bool" false
 | zfI:TyP "tuple" "bool" false
 | zgg:TyP "list" "bool" false
 | zfT:TyP "int" "tuple" false
 | zfv:TyP "bool" "tuple" false
 | zgr:TyP "str" "tuple" false
 | zdp:TyP "NoneType" "tuple" false
 | zeZ:TyP "tuple" "tuple" true
 | zfm:TyP "list" "tuple" false
 | zg3:TyP "int" "list" false
 | zgn:TyP "bool" "list" false
 | zhk:TyP "str" "list" false
 | zdQ:TyP "NoneType" "list" false
 | zfi:TyP "tuple" "list" false
 | zgq:TyP "list" "list" true
 | zh1:TyP "int" "str" false
 | zhh:TyP "bool" "str" false
 | zic:TyP "str" "str" true
 | zep:TyP "NoneType" "str" false
 | zf9:TyP "tuple" "str" false
 | zho:TyP "list" "str" false
theorem TyP.ok (K:PySem.W.Frag) {t n:String} {b:Bool} (h:TyP t n b):PySem.W.kitOne K (.type t) (.type n)=some b:=by
 cases h
 ·exact V2.zhZ K
 ·exact V2.zg5 K
 ·exact V2.zim K
 ·exact V2.zeg K
 ·exact V2.zfU K
 ·exact V2.zhy K
 ·exact V2.zhz K
 ·exact V2.zgw K
 ·exact V2.zhr K
 ·exact V2.zdP K
 ·exact V2.zfI K
 ·exact V2.zgg K
 ·exact V2.zfT K
 ·exact V2.zfv K
 ·exact V2.zgr K
 ·exact V2.zdp K
 ·exact V2.zeZ K
 ·exact V2.zfm K
 ·exact V2.zg3 K
 ·exact V2.zgn K
 ·exact V2.zhk K
 ·exact V2.zdQ K
 ·exact V2.zfi K
 ·exact V2.zgq K
 ·exact V2.zh1 K
 ·exact V2.zhh K
 ·exact V2.zic K
 ·exact V2.zep K
 ·exact V2.zf9 K
 ·exact V2.zho K
def isTy (t n:String):Option Bool:=if t = "int"∧n = "int" then some true else if t = "bool"∧n = "int" then some true else if t = "str"∧n = "int" then some false else if t = "NoneType"∧n = "int" then some false else if t = "tuple"∧n = "int" then some false else if t = "list"∧n = "int" then some false else if t = "int"∧n = "bool" then some false else if t = "bool"∧n = "bool" then some true else if t = "str"∧n = "bool" then some false else if t = "NoneType"∧n = "bool" then some false else if t = "tuple"∧n = "bool" then some false else if t = "list"∧n = "bool" then some false else if t = "int"∧n = "tuple" then some false else if t = "bool"∧n = "tuple" then some false else if t = "str"∧n = "tuple" then some false else if t = "NoneType"∧n = "tuple" then some false else if t = "tuple"∧n = "tuple" then some true else if t = "list"∧n = "tuple" then some false else if t = "int"∧n = "list" then some false else if t = "bool"∧n = "list" then some false else if t = "str"∧n = "list" then some false else if t = "NoneType"∧n = "list" then some false else if t = "tuple"∧n = "list" then some false else if t = "list"∧n = "list" then some true else if t = "int"∧n = "str" then some false else if t = "bool"∧n = "str" then some false else if t = "str"∧n = "str" then some true else if t = "NoneType"∧n = "str" then some false else if t = "tuple"∧n = "str" then some false else if t = "list"∧n = "str" then some false else none
theorem zyc {t n:String} {b:Bool} (h:isTy t n=some b):TyP t n b:=by
 unfold isTy at h
 by_cases h0:t = "int"∧n = "int"
 ·rw [if_pos h0] at h;cases h;obtain ⟨rfl,rfl⟩:=h0;exact .zhZ
 rw [if_neg h0] at h
 by_cases h1:t = "bool"∧n = "int"
 ·rw [if_pos h1] at h;cases h;obtain ⟨rfl,rfl⟩:=h1;exact .zg5
 rw [if_neg h1] at h
 by_cases h2:t = "str"∧n = "int"
 ·rw [if_pos h2] at h;cases h;obtain ⟨rfl,rfl⟩:=h2;exact .zim
 rw [if_neg h2] at h
 by_cases h3:t = "NoneType"∧n = "int"
 ·rw [if_pos h3] at h;cases h;obtain ⟨rfl,rfl⟩:=h3;exact .zeg
 rw [if_neg h3] at h
 by_cases h4:t = "tuple"∧n = "int"
 ·rw [if_pos h4] at h;cases h;obtain ⟨rfl,rfl⟩:=h4;exact .zfU
 rw [if_neg h4] at h
 by_cases h5:t = "list"∧n = "int"
 ·rw [if_pos h5] at h;cases h;obtain ⟨rfl,rfl⟩:=h5;exact .zhy
 rw [if_neg h5] at h
 by_cases h6:t = "int"∧n = "bool"
 ·rw [if_pos h6] at h;cases h;obtain ⟨rfl,rfl⟩:=h6;exact .zhz
 rw [if_neg h6] at h
 by_cases h7:t = "bool"∧n = "bool"
 ·rw [if_pos h7] at h;cases h;obtain ⟨rfl,rfl⟩:=h7;exact .zgw
 rw [if_neg h7] at h
 by_cases h8:t = "str"∧n = "bool"
 ·rw [if_pos h8] at h;cases h;obtain ⟨rfl,rfl⟩:=h8;exact .zhr
 rw [if_neg h8] at h
 by_cases h9:t = "NoneType"∧n = "bool"
 ·rw [if_pos h9] at h;cases h;obtain ⟨rfl,rfl⟩:=h9;exact .zdP
 rw [if_neg h9] at h
 by_cases h10:t = "tuple"∧n = "bool"
 ·rw [if_pos h10] at h;cases h;obtain ⟨rfl,rfl⟩:=h10;exact .zfI
 rw [if_neg h10] at h
 by_cases h11:t = "list"∧n = "bool"
 ·rw [if_pos h11] at h;cases h;obtain ⟨rfl,rfl⟩:=h11;exact .zgg
 rw [if_neg h11] at h
 by_cases h12:t = "int"∧n = "tuple"
 ·rw [if_pos h12] at h;cases h;obtain ⟨rfl,rfl⟩:=h12;exact .zfT
 rw [if_neg h12] at h
 by_cases h13:t = "bool"∧n = "tuple"
 ·rw [if_pos h13] at h;cases h;obtain ⟨rfl,rfl⟩:=h13;exact .zfv
 rw [if_neg h13] at h
 by_cases h14:t = "str"∧n = "tuple"
 ·rw [if_pos h14] at h;cases h;obtain ⟨rfl,rfl⟩:=h14;exact .zgr
 rw [if_neg h14] at h
 by_cases h15:t = "NoneType"∧n = "tuple"
 ·rw [if_pos h15] at h;cases h;obtain ⟨rfl,rfl⟩:=h15;exact .zdp
 rw [if_neg h15] at h
 by_cases h16:t = "tuple"∧n = "tuple"
 ·rw [if_pos h16] at h;cases h;obtain ⟨rfl,rfl⟩:=h16;exact .zeZ
 rw [if_neg h16] at h
 by_cases h17:t = "list"∧n = "tuple"
 ·rw [if_pos h17] at h;cases h;obtain ⟨rfl,rfl⟩:=h17;exact .zfm
 rw [if_neg h17] at h
 by_cases h18:t = "int"∧n = "list"
 ·rw [if_pos h18] at h;cases h;obtain ⟨rfl,rfl⟩:=h18;exact .zg3
 rw [if_neg h18] at h
 by_cases h19:t = "bool"∧n = "list"
 ·rw [if_pos h19] at h;cases h;obtain ⟨rfl,rfl⟩:=h19;exact .zgn
 rw [if_neg h19] at h
 by_cases h20:t = "str"∧n = "list"
 ·rw [if_pos h20] at h;cases h;obtain ⟨rfl,rfl⟩:=h20;exact .zhk
 rw [if_neg h20] at h
 by_cases h21:t = "NoneType"∧n = "list"
 ·rw [if_pos h21] at h;cases h;obtain ⟨rfl,rfl⟩:=h21;exact .zdQ
 rw [if_neg h21] at h
 by_cases h22:t = "tuple"∧n = "list"
 ·rw [if_pos h22] at h;cases h;obtain ⟨rfl,rfl⟩:=h22;exact .zfi
 rw [if_neg h22] at h
 by_cases h23:t = "list"∧n = "list"
 ·rw [if_pos h23] at h;cases h;obtain ⟨rfl,rfl⟩:=h23;exact .zgq
 rw [if_neg h23] at h
 by_cases h24:t = "int"∧n = "str"
 ·rw [if_pos h24] at h;cases h;obtain ⟨rfl,rfl⟩:=h24;exact .zh1
 rw [if_neg h24] at h
 by_cases h25:t = "bool"∧n = "str"
 ·rw [if_pos h25] at h;cases h;obtain ⟨rfl,rfl⟩:=h25;exact .zhh
 rw [if_neg h25] at h
 by_cases h26:t = "str"∧n = "str"
 ·rw [if_pos h26] at h;cases h;obtain ⟨rfl,rfl⟩:=h26;exact .zic
 rw [if_neg h26] at h
 by_cases h27:t = "NoneType"∧n = "str"
 ·rw [if_pos h27] at h;cases h;obtain ⟨rfl,rfl⟩:=h27;exact .zep
 rw [if_neg h27] at h
 by_cases h28:t = "tuple"∧n = "str"
 ·rw [if_pos h28] at h;cases h;obtain ⟨rfl,rfl⟩:=h28;exact .zf9
 rw [if_neg h28] at h
 by_cases h29:t = "list"∧n = "str"
 ·rw [if_pos h29] at h;cases h;obtain ⟨rfl,rfl⟩:=h29;exact .zho
 rw [if_neg h29] at h
 cases h
theorem zv3 (K:PySem.W.Frag) {t n:String} {b:Bool} (h:isTy t n=some b):PySem.W.kitOne K (.type t) (.type n)=some b:=(zyc h).ok K
@[simp] def gIs1 (as:List A):Mo A:=fun Ω=>match as with
 | [a, .ty n]=>(match (tyA Ω a).bind fun t=>isTy t n with
  | some b=>some (.ok (.bl b),Ω)
  | none=>none)
 | _=>none
theorem zoZ:zhJ X W (.builtin "isinstance") gIs1:=by
 refine ⟨_,zod,?_⟩
 intro G ι Ω H σ xs as Q w d h
 unfold gIs1 at h
 split at h
 ·rename_i a n
  split at h
  ·rename_i b e
   rw [Option.bind_eq_some_iff] at e
   obtain ⟨t,e1,e2⟩:=e
   obtain ⟨x,y,rfl,d1,d2⟩:=den2 d
   simp only [Den] at d2;subst d2
   exact ⟨x,n,_,b,rfl,zx6 w d1 e1,zv3 _ e2,h _ H G ι (Ext.refl _ _) w (by simp only [Den])⟩
  ·exact False.elim h
 ·exact False.elim h
def MtV (K:PySem.W.Frag) (W:WX) (r:V→List V→Hp→VK→Prop) (g:A→List A→Mo A):Prop :=
 ∀ G ι Ω H σ x xs a as Q,Wd K G ι Ω H→Den K G ι x a→DenL K G ι xs as→Post K (Den K) W G ι σ Q (g a as Ω)→r x xs H Q
def isL (Ω:Sto) (a:A):Prop:=∃ ds,zaD Ω a=some ds
open Classical in
@[simp] noncomputable def vBM (g:A→List A→Mo A) (fo:Ev→Mo A) (f:Ev→Mo (List A)):Ev→Mo A:=fun ρ=>mb (fo ρ) fun o Ω=>if isL Ω o then mb (f ρ) (fun as=>g o as) Ω else none
theorem zuG {K:PySem.W.Frag} {G H:Hp} {ι:List Addr} {Ω:Sto} {v:V} {a:A} (w:Wd K G ι Ω H) (d:Den K G ι v a) (h:isL Ω a):tyV K "list" v H:=by
 obtain ⟨ds,e⟩:=h
 obtain ⟨p,xs,rfl,q,_⟩:=zco w d e
 exact .inl ⟨rfl,xs,q⟩
theorem zlh {name:Str} {apos:Pos} {id:String} {r:V→List V→Hp→VK→Prop} {g:A→List A→Mo A} (pa:PlainAttrs "list") (slot:Slot "list" name id) (hty:typeOf (.builtin id)=pure (.type "method_descriptor")) (hm:MtR X id r) (hv:MtV X.K W r g) (ho:VE X W a fa) (ha:VA X W (e :: es) fs)
  (hbase:attributeBase a name X.env (eval a X.env)=eval a X.env:=by rfl)
  (hfew:((backTo pos (starEach (e :: es) X.env)).all (fun x=>!x.1) && (backToKw pos (keywordEach [] X.env)).all (fun x=>x.1.isSome)
   && decide ((e :: es).length + ([] : List Keyword).length + (if ([] : List Keyword).isEmpty then 0 else 1) < 30))=true:=by rfl)
  (hline:(apos.endLine == pos.line)=true:=by rfl) (hs:starEach (e :: es) X.env=(false,eval e X.env) :: starEach es X.env:=by rfl) (hplain:(backTo pos (starEach es X.env)).any (·.1)=false:=by rfl) :
  VE X W (.Call (.Attribute a name apos) (e :: es) [] pos) (vBM g fa fs):=by
 obtain ⟨t,p1,s1⟩:=ho
 obtain ⟨u,p2,s2⟩:=ha
 refine ⟨_,zzX pa slot hty hm p1 p2 hbase hfew hline hs hplain,fun G ι Ω H σ ρ Q w r h=>?_⟩
 refine s1 G ι Ω H σ ρ _ w r (Post.mb h fun x Ω1 v H1 G1 ι1 x1 w1 d1 h1=>?_)
 split at h1
 ·rename_i hl
  refine ⟨zuG w1 d1 hl,s2 G1 ι1 Ω1 H1 σ ρ _ w1 (r.ext x1) (Post.mb h1 fun as Ω2 vs H2 G2 ι2 x2 w2 d2 h2=>?_)⟩
  exact hv G2 ι2 Ω2 H2 σ v vs x as Q w2 (d1.ext x2) d2 h2
 ·exact False.elim h1
def zfL (Ω:Sto):A→Option (Nat × List A)
 | .cel k=>match Ω[k]? with
  | some (.lst ds)=>some (k,ds)
  | _=>none
 | _=>none
theorem zk6 {K:PySem.W.Frag} {G H:Hp} {ι:List Addr} {Ω:Sto} {v:V} {a:A} {k:Nat} {ds:List A} (w:Wd K G ι Ω H) (d:Den K G ι v a) (h:zfL Ω a=some (k,ds)):∃ p xs,v = .ref p∧ι[k]? = some p∧G p=none∧H p=some (.lst xs)∧DenL K G ι xs ds:=by
 cases a with
 | cel j =>
  simp only [zfL] at h
  split at h
  ·rename_i es e
   cases h
   simp only [Den] at d
   obtain ⟨p,rfl,hk⟩:=d
   obtain ⟨g,xs,h3,h4⟩:=w.cel k _ p e hk
   exact ⟨p,xs,rfl,hk,g,h3,h4⟩
  ·cases h
 | _=>simp [zfL] at h
@[simp] def zcS (o:A) (as:List A):Mo A:=fun Ω=>match zfL Ω o,as with
 | some (k,ds),[y]=>if ds.length < sizeLine then some (.ok .non,Ω.set k (.lst (ds ++ [y]))) else none
 | _,_=>none
theorem zfH:MtV X.K W zrR zcS:=by
 intro G ι Ω H σ x xs a as Q w d1 d2 h
 unfold zcS at h
 split at h
 ·rename_i k ds y e
  split at h
  ·rename_i hl
   obtain ⟨p,zs,rfl,hk,g,h3,h4⟩:=zk6 w d1 e
   obtain ⟨u,rfl,du⟩:=den1 d2
   refine ⟨p,zs,u,rfl,rfl,h3,by rw [h4.length];exact hl,?_⟩
   exact h _ _ G ι (Ext.refl _ _) (w.put (c := .lst (ds ++ [y])) hk g ⟨g,_,zay,h4.append (.cons du .nil)⟩) (by simp only [Den])
  ·exact False.elim h
 ·exact False.elim h
end
end V2
namespace V2
open PySem PySem.Spec PyProof.Rows L2
mutual
def Cl (n:Nat):A→Prop
 | .cel k=>k < n
 | .tup ds=>ClL n ds
 | .lst ds=>ClL n ds
 | _=>True
def ClL (n:Nat):List A→Prop
 | []=>True
 | d :: ds=>Cl n d∧ClL n ds
end
section
variable {K:PySem.W.Frag} {G:Hp} {ι:List Addr}
mutual
theorem Den.cl:∀ {v:V} {d:A},Den K G ι v d→Cl ι.length d
 | _, .int _,_=>by simp only [Cl]
 | _, .bl _,_=>by simp only [Cl]
 | _, .str _,_=>by simp only [Cl]
 | _, .non,_=>by simp only [Cl]
 | _, .ty _,_=>by simp only [Cl]
 | _, .adr _,_=>by simp only [Cl]
 | _, .exn _ _ _ _,_=>by simp only [Cl]
 | _, .gl _,_=>by simp only [Cl]
 | _, .scr _,_=>by simp only [Cl]
 | _, .tup ds,h=>by
  simp only [Den] at h;simp only [Cl]
  obtain ⟨a,xs,_,_,h3⟩:=h
  exact DenL.cl h3
 | _, .lst ds,h=>by
  simp only [Den] at h;simp only [Cl]
  obtain ⟨a,xs,_,_,h3⟩:=h
  exact DenL.cl h3
 | _, .cel k,h=>by
  simp only [Den] at h;simp only [Cl]
  obtain ⟨a,_,h2⟩:=h
  exact (List.getElem?_eq_some_iff.mp h2).1
theorem DenL.cl:∀ {xs:List V} {ds:List A},DenL K G ι xs ds→ClL ι.length ds
 | _,[],_=>by simp only [ClL]
 | _,d :: ds,h=>by
  simp only [DenL] at h;simp only [ClL]
  obtain ⟨x,r,_,h2,h3⟩:=h
  exact ⟨Den.cl h2,DenL.cl h3⟩
end
mutual
theorem Den.cut {ι':List Addr} {n:Nat} (e:∀ k,k < n→ι[k]? = ι'[k]?):∀ {v:V} {d:A},Den K G ι' v d→Cl n d→Den K G ι v d
 | _, .int _,h,_=>by simpa only [Den] using h
 | _, .bl _,h,_=>by simpa only [Den] using h
 | _, .str _,h,_=>by simpa only [Den] using h
 | _, .non,h,_=>by simpa only [Den] using h
 | _, .ty _,h,_=>by simpa only [Den] using h
 | _, .adr _,h,_=>by simpa only [Den] using h
 | _, .exn _ _ _ _,h,_=>by simpa only [Den] using h
 | _, .gl _,h,_=>by simpa only [Den] using h
 | _, .scr _,h,_=>by simpa only [Den] using h
 | _, .tup ds,h,c=>by
  simp only [Den] at h ⊢;simp only [Cl] at c
  obtain ⟨a,xs,h1,h2,h3⟩:=h
  exact ⟨a,xs,h1,h2,DenL.cut e h3 c⟩
 | _, .lst ds,h,c=>by
  simp only [Den] at h ⊢;simp only [Cl] at c
  obtain ⟨a,xs,h1,h2,h3⟩:=h
  exact ⟨a,xs,h1,h2,DenL.cut e h3 c⟩
 | _, .cel k,h,c=>by
  simp only [Den] at h ⊢;simp only [Cl] at c
  obtain ⟨a,h1,h2⟩:=h
  exact ⟨a,h1,(e k c).trans h2⟩
theorem DenL.cut {ι':List Addr} {n:Nat} (e:∀ k,k < n→ι[k]? = ι'[k]?):∀ {xs:List V} {ds:List A},DenL K G ι' xs ds→ClL n ds→DenL K G ι xs ds
 | _,[],h,_=>by simpa only [DenL] using h
 | _,d :: ds,h,c=>by
  simp only [DenL] at h ⊢;simp only [ClL] at c
  obtain ⟨x,r,h1,h2,h3⟩:=h
  exact ⟨x,r,h1,Den.cut e h2 c.1,DenL.cut e h3 c.2⟩
end
def ClF (n:Nat):Fd→Prop
 | .val a=>Cl n a
 | .lst ds=>ClL n ds
 | .dct kvs=>ClL n (kvs.map (·.2))
def ClFs (n:Nat):List (Str × Fd)→Prop
 | []=>True
 | p :: r=>ClF n p.2∧ClFs n r
def ClC (n:Nat):Cell→Prop
 | .lst ds=>ClL n ds
 | .dct kvs=>ClL n (kvs.map (·.2))
 | .ins _ fs=>ClFs n fs
 | _=>True
theorem FdOk.cl {H:Hp} {v:V} {fd:Fd} (h:FdOk K G ι H v fd):ClF ι.length fd:=by
 cases fd with
 | val a=>exact Den.cl h
 | lst ds=>obtain ⟨_,_,_,_,_,_,q⟩:=h;exact q.cl
 | dct kvs=>obtain ⟨_,_,_,_,_,_,_,q⟩:=h;exact q.cl
theorem zdG.cl {H:Hp}:∀ {ws:List (Str × V)} {fs:List (Str × Fd)},zdG K G ι H ws fs→ClFs ι.length fs
 | [],[],_=>trivial
 | (_,_) :: _,(_,_) :: _,h=>⟨h.2.1.cl,h.2.2.cl⟩
 | [],_ :: _,h=>h.elim
 | _ :: _,[],h=>h.elim
theorem ze8.cl {H:Hp} {a:Addr} {c:Cell} (h:ze8 K G ι H a c):ClC ι.length c:=by
 cases c with
 | lst ds=>obtain ⟨_,_,_,q⟩:=h;exact q.cl
 | dct kvs=>obtain ⟨_,_,_,_,q⟩:=h;exact q.cl
 | ins cls fs=>obtain ⟨_,_,_,_,_,_,q⟩:=h;exact q.cl
 | tab x pos qual=>trivial
 | dead=>trivial
theorem FdOk.cut {H:Hp} {ι':List Addr} {n:Nat} {v:V} {fd:Fd} (h:FdOk K G ι' H v fd) (e:∀ k,k < n→ι[k]? = ι'[k]?) (hi:∀ b,b ∉ ι'→b ∉ ι) (c:ClF n fd):FdOk K G ι H v fd:=by
 cases fd with
 | val a=>exact Den.cut e h c
 | lst ds=>obtain ⟨b,xs,h1,h2,h3,h4,h5⟩:=h;exact ⟨b,xs,h1,h2,hi b h3,h4,h5.cut e c⟩
 | dct kvs=>obtain ⟨b,ws,h1,h2,h3,h4,h5,h6⟩:=h;exact ⟨b,ws,h1,h2,hi b h3,h4,h5,h6.cut e c⟩
theorem zdG.cut {H:Hp} {ι':List Addr} {n:Nat} (e:∀ k,k < n→ι[k]? = ι'[k]?) (hi:∀ b,b ∉ ι'→b ∉ ι):∀ {ws:List (Str × V)} {fs:List (Str × Fd)},zdG K G ι' H ws fs→ClFs n fs→zdG K G ι H ws fs
 | [],[],_,_=>trivial
 | (_,_) :: _,(_,_) :: _,h,c=>⟨h.1,h.2.1.cut e hi c.1,zdG.cut e hi h.2.2 c.2⟩
 | [],_ :: _,h,_=>h.elim
 | _ :: _,[],h,_=>h.elim
theorem ze8.cut {H:Hp} {ι':List Addr} {n:Nat} {a:Addr} {c:Cell} (h:ze8 K G ι' H a c) (e:∀ k,k < n→ι[k]? = ι'[k]?) (hi:∀ b,b ∉ ι'→b ∉ ι) (hc:ClC n c):ze8 K G ι H a c:=by
 cases c with
 | lst ds=>obtain ⟨g,xs,h1,h2⟩:=h;exact ⟨g,xs,h1,h2.cut e hc⟩
 | dct kvs=>obtain ⟨g,ws,h1,h2,h3⟩:=h;exact ⟨g,ws,h1,h2,h3.cut e hc⟩
 | ins cls fs=>obtain ⟨g,C,dx,ws,h0,h1,h2⟩:=h;exact ⟨g,C,dx,ws,h0,h1,h2.cut e hi hc⟩
 | tab x pos qual=>exact h
 | dead=>trivial
theorem Ext.cut {G':Hp} {ι':List Addr} (e:Ext G ι G' ι'):∀ k,k < ι.length→ι[k]? = ι'[k]?:=fun k hk=>by
 rw [List.getElem?_eq_getElem hk,e.pre k _ (List.getElem?_eq_getElem hk)]
theorem Wd.cut {G' H H':Hp} {ι':List Addr} {Ω Ω':Sto} (w:Wd K G ι Ω H) (w':Wd K G' ι' Ω' H') (e:Ext G ι G' ι') (ht:Ω'.take Ω.length=Ω):Wd K G' ι Ω H' where
 sub:=w'.sub
 inj:=w.inj
 len:=w.len
 live:=fun a ha=>by
  obtain ⟨k,hk,ea⟩:=List.getElem_of_mem ha
  exact w'.live a (List.mem_of_getElem? (e.pre k a (by rw [← ea];exact List.getElem?_eq_getElem hk)))
 cel:=fun k c a h1 h2=>by
  have hk:k < Ω.length:=(List.getElem?_eq_some_iff.mp h1).1
  have h1':Ω'[k]? = some c:=by
   rw [← ht,List.getElem?_take] at h1
   rw [if_pos hk] at h1;exact h1
  have q:=w'.cel k c a h1' (e.pre k a h2)
  have q0:=w.cel k c a h1 h2
  cases c with
  | lst ds =>
   obtain ⟨g,xs,h3,h4⟩:=q
   obtain ⟨_,_,_,h5⟩:=q0
   exact ⟨g,xs,h3,h4.cut e.cut h5.cl⟩
  | dct kvs =>
   obtain ⟨g,ws,h3,h4,h5⟩:=q
   obtain ⟨_,_,_,_,h6⟩:=q0
   exact ⟨g,ws,h3,h4,h5.cut e.cut h6.cl⟩
  | ins cls fs =>
   obtain ⟨g,C,dx,ws,h0,h3,h4⟩:=q
   obtain ⟨_,_,_,_,_,_,h6⟩:=q0
   exact ⟨g,C,dx,ws,h0,h3,h4.cut (n:=ι.length) e.cut (fun b hb z=>hb (by
    obtain ⟨k,hk,ea⟩:=List.getElem_of_mem z
    exact List.mem_of_getElem? (e.pre k b (by rw [← ea];exact List.getElem?_eq_getElem hk)))) h6.cl⟩
  | tab x pos qual=>exact q
  | dead=>trivial
 sep:=fun b k i k' i' h1 h2=>by
  have back:∀ {k i},zdB H' ι Ω k i b→zdB H' ι' Ω' k i b:=fun {k i} h=>h.to (fun a ha=>⟨e.pre k a ha,fun _ z=>z⟩) fun cls fs q=>by
   have hk:k < Ω.length:=(List.getElem?_eq_some_iff.mp q).1
   rw [← ht,List.getElem?_take,if_pos hk] at q
   exact q
  exact w'.sep b k i k' i' (back h1) (back h2)
end
open Classical in
noncomputable def trim (Ω:Sto):Option (Rs A × Sto)→Option (Rs A × Sto)
 | some (.ok a,Ω')=>if Ω'.take Ω.length=Ω∧Cl Ω.length a then some (.ok a,Ω) else some (.ok a,Ω')
 | some (.exc x,Ω')=>if Ω'.take Ω.length=Ω∧ClL Ω.length (x.fs.map (·.2)) then some (.exc x,Ω) else some (.exc x,Ω')
 | none=>none
theorem zvB {K:PySem.W.Frag} {W:WX} {G H:Hp} {ι:List Addr} {Ω:Sto} {σ:L2.St} {Q:VK} {r:Option (Rs A × Sto)} (w:Wd K G ι Ω H) (h:Post K (Den K) W G ι σ Q (trim Ω r)):Post K (Den K) W G ι σ Q r:=by
 match r,h with
 | some (.ok a,Ω'),h =>
  simp only [trim] at h
  split at h
  ·rename_i hc
   exact fun v H' G' ι' e w' d=>h v H' G' ι ⟨e.same,fun _ _ q=>q⟩ (w.cut w' e hc.1) (d.cut e.cut (by rw [w.len];exact hc.2))
  ·exact h
 | some (.exc x,Ω'),h =>
  simp only [trim] at h
  split at h
  ·rename_i hc
   intro cls dx H' G' ι' e w' d
   refine h cls dx H' G' ι ⟨e.same,fun _ _ q=>q⟩ (w.cut w' e hc.1) d
  ·exact h
@[simp] def outR:OS→Option (Rs A × Sto)
 | some (.nx,_,Ω)=>some (.ok .non,Ω)
 | some (.ret a,_,Ω)=>some (.ok a,Ω)
 | some (.exc x,_,Ω)=>some (.exc x,Ω)
 | _=>none
@[simp] def ev0 (n:Nat) (ds:List A):Ev:=ds.map some ++ List.replicate (n - ds.length) none
@[simp] noncomputable def fnF (n:Nat) (b:MS):List A→Mo A:=fun ds Ω=>trim Ω (outR (b (ev0 n ds) Ω))
def spV (K:PySem.W.Frag) (n:Nat) (F:List A→Mo A):Sp:=fun vs H Q E=>vs.length=n∧∃ G ι Ω ds,Wd K G ι Ω H∧DenL K G ι vs ds∧Post K (Den K) (fun _=>E) G ι [] Q (F ds Ω)
abbrev DefV (P:Program) (w:World) (K:PySem.W.Frag) (mg:Str→Option Value) (base:Heap) (x:Str) (k:Nat) (ps:List Str) (F:List A→Mo A):Prop:=DefX P w K mg base x k ps (spV K ps.length F)
theorem zqx {K:PySem.W.Frag} {G:Hp} {ι:List Addr} {N:List Str} {vs:List V} {ds:List A} (d:DenL K G ι vs ds):EnvR K G ι (L2.start N vs) (ev0 N.length ds):=by
 unfold L2.start ev0
 have hl:=d.length
 refine ⟨by simp [hl],fun i a h=>?_⟩
 by_cases hi:i < ds.length
 ·rw [List.getElem?_append_left (by simpa using hi)] at h
  rw [List.getElem?_map] at h
  cases e:ds[i]? with
  | none=>rw [e] at h;cases h
  | some a' =>
   rw [e] at h
   cases h
   obtain ⟨v,q1,q2⟩:=d.get e
   refine ⟨v,?_,q2⟩
   rw [List.getElem?_append_left (by simp;omega),List.getElem?_map,q1]
   rfl
 ·rw [List.getElem?_append_right (by simpa using hi)] at h
  have:=List.mem_of_getElem? h
  simp at this
theorem zj9 {K:PySem.W.Frag} {N:List Str} {t:TS} {b:MS} {H:Hp} {vs:List V} {Q:VK} {E:XK} {n:Nat} (s:SimS K (fun _=>E) t b) (h:spV K n (fnF N.length b) vs H Q E):t { nx:=fun _ H'=>Q .non H',rt:=Q } (L2.start N vs) H:=by
 obtain ⟨hl,G,ι,Ω,ds,w,d,q⟩:=h
 refine s G ι Ω H _ (ev0 N.length ds) _ w (zqx d) ?_
 have q':=zvB w q
 revert q'
 generalize b (ev0 N.length ds) Ω=r
 intro q'
 match r,q' with
 | some (.nx,ρ',Ω'),q'=>exact fun σ' H' G' ι' e w' r'=>q' .non H' G' ι' e w' (by simp only [Den])
 | some (.ret a,ρ',Ω'),q'=>exact fun σ' H' G' ι' e w' r' v d'=>q' v H' G' ι' e w' d'
 | some (.exc x,ρ',Ω'),q'=>exact fun σ' H' G' ι' e w' r' cls dx d'=>q' cls dx H' G' ι' e w' d'
 | some (.bk,ρ',Ω'),q'=>exact False.elim q'
 | some (.ct,ρ',Ω'),q'=>exact False.elim q'
section
variable {P:Program} {w:World} {K:PySem.W.Frag} {mg:Str→Option Value} {base:Heap}
theorem zuX {x:Str} {st:Stmt} {N ps:List Str} {k:Nat} {b:MS} {f:Addr} {fd:FuncData} (F:Fun K x x st f fd) (S:zaq N ps (zac st))
  (hbody:∀ (f:Addr) (cdv:Value) (A:Around) (outer:List Env) (s:Shared) (H:Hp) (E:XK),Room k (A.deeper (envOfC x (zac st) s.heap.objs.size f cdv)) →
   VSs (cxX P w K mg base N x (zac st) f cdv A outer s H E) (fun _=>E) (zaj st) b):FnOk P w K mg base (CXE P w) (k + 1) f fd ps (spV K ps.length (fnF N.length b)):=by
 obtain ⟨oc,od,kV,doc,pm,an,cdv,ct,osl,rfl,lk,hcd⟩:=F.ex
 refine zrb lk hcd S (fun vs H Q E h=>h.1) fun A outer s H vs Q E hr hsp=>?_
 obtain ⟨t,p,q⟩:=hbody f cdv A outer s H E hr
 exact ⟨t,zo9 p,zj9 q hsp⟩
theorem DefV.of {x:Str} {st:Stmt} {N ps:List Str} {k:Nat} {b:MS} (h:HasFn K mg x st) (S:zaq N ps (zac st))
  (bind:∀ (kV doc pm:Value) (an:Option Addr) (cdv ct:Value) (us:List Value),us.length=ps.length→bindArgs (PySem.W.fnOf x x (zar st) (zaj st) (zac st) .none kV doc pm an cdv ct) ⟨us,[]⟩ = pure (ps.zip us))
  (hbody:∀ (f:Addr) (cdv:Value) (A:Around) (outer:List Env) (s:Shared) (H:Hp) (E:XK),Room k (A.deeper (envOfC x (zac st) s.heap.objs.size f cdv)) →
   VSs (cxX P w K mg base N x (zac st) f cdv A outer s H E) (fun _=>E) (zaj st) b):DefV P w K mg base x (k + 1) ps (fnF N.length b):=by
 obtain ⟨f,fd,hm,F⟩:=h.ex
 exact ⟨f,fd,zuX F S hbody,hm,F.kp,F.binds bind⟩
abbrev DefN (P:Program) (w:World) (K:PySem.W.Frag) (mg:Str→Option Value) (base:Heap) (x:Str) (k:Nat) (ps:List Str) (F:List A→Mo A):Prop:=Def P w K mg base x k ps (fun vs H Q _=>spV K ps.length F vs H Q fun _ _ _=>False)
theorem zn1 {k:Nat} {f:Addr} {fd:FuncData} {ps:List Str} {sp:Sp} (F:FnOk P w K mg base (CXE P w) k f fd ps sp):FnOk P w K mg base CX0 k f fd ps (fun vs H Q _=>sp vs H Q fun _ _ _=>False) :=
 ⟨fun vs H Q E h=>F.len _ _ _ _ h,fun A outer s H args us vs Q E hr e0 hb r hsp=>codeAny_mono (F.run A outer s H args us vs Q _ hr e0 hb r hsp) fun r s' hq=>by
  cases r with
  | error ev=>obtain ⟨x,cls,dx,H',_,_,_,_,_,_,q⟩:=hq;exact q.elim
  | ok fl=>cases fl <;> exact hq⟩
theorem DefV.calm {x:Str} {k:Nat} {ps:List Str} {F:List A→Mo A} (D:DefV P w K mg base x k ps F):DefN P w K mg base x k ps F:=by
 obtain ⟨f,fd,h1,h2,h3,h4⟩:=D.ex
 exact ⟨f,fd,zn1 h1,h2,h3,h4⟩
def zup (K:PySem.W.Frag):Sp:=fun vs H Q _=>∃ (a:Addr) (ns:List Int),vs=[.ref a]∧SqL K H a (ns.map V.int)∧ns.length ≤ 63∧∀ H',Q (.bl true) H'
theorem zxI {fa:Addr} {fd:FuncData} {k:Nat} {F:List A→Mo A} (h1:FnOk P w K mg base (CXE P w) k fa fd ["_law_script"] (spV K 1 F)) (hF:∀ ns:List Int,ns.length ≤ 63→∃ Ω,F [.scr ns] []=some (.ok (.bl true),Ω)) :
  FnOk P w K mg base CX0 k fa fd ["_law_script"] (zup K):=by
 refine (zn1 h1).imp fun vs H Q E hq=>?_
 obtain ⟨a,ns,rfl,hs,hl,q⟩:=hq
 obtain ⟨Ω,e⟩:=hF ns hl
 refine ⟨rfl,H,[],[],[.scr ns],⟨Same.refl _,List.nodup_nil,rfl,fun a ha=>by simp at ha,fun k c a h=>by simp at h,fun b k i k' i' h=>by obtain ⟨_,_,_,_,_,_,_,_,_,q,_⟩:=h;simp at q⟩, .cons (by simp only [Den];exact ⟨a,rfl,hs⟩) .nil,?_⟩
 rw [e]
 intro v H' G' ι' _ _ d
 simp only [Den] at d
 subst d
 exact q H'
end
section
variable {X:Cx} {W:WX} {x:Str} {p pos:Pos} {e:Expr} {es:List Expr} {fs:Ev→Mo (List A)}
@[simp] def zat (n:Nat) (F:List A→Mo A):List A→Mo A:=fun as=>if as.length=n then F as else stuck
theorem zm1 {K:PySem.W.Frag} {G G1:Hp} {ι ι1:List Addr} {σ:L2.St} {Q:VK} {r:Option (Rs A × Sto)} {W:WX} (h:Post K (Den K) W G ι σ Q r) (x1:Ext G ι G1 ι1):Post K (Den K) (fun _=>fun cls dx H'=>W σ cls dx H') G1 ι1 [] Q r:=by
 match r,h with
 | some (.ok a,Ω2),h=>exact fun v H' G' ι' x2 w2 d2=>h v H' G' ι' (x1.trans x2) w2 d2
 | some (.exc a,Ω2),h=>exact fun cls dx H' G' ι' x2 w2 d2=>h cls dx H' G' ι' (x1.trans x2) w2 d2
theorem zaW {k:Nat} {ps:List Str} {F:List A→Mo A} (T:zgG X W) (D:DefV X.prog X.w X.K X.mg X.base x k ps F) (hr:Room k X.A) (hg:Gl X x) (ha:VA X W (e :: es) fs)
  (hdb:(x == ("__debug__" : Str))=false:=by decide) (he:starEach (e :: es) X.env=(false,eval e X.env) :: starEach es X.env:=by rfl) (hpl:(backTo pos (starEach es X.env)).any (·.1)=false:=by rfl):VE X W (.Call (.Name x p) (e :: es) [] pos) (vCl (zat ps.length F) fs):=by
 obtain ⟨t,p1,s1⟩:=ha
 refine ⟨_,zxc T D hr hg p1 hdb he hpl,fun G ι Ω H σ ρ Q w r h=>?_⟩
 refine s1 G ι Ω H σ ρ _ w r (Post.mb h fun as Ω1 vs H1 G1 ι1 x1 w1 d1 h1=>?_)
 unfold zat at h1
 split at h1
 ·rename_i hl
  exact ⟨by rw [d1.length];exact hl,G1,ι1,Ω1,as,w1,d1,zm1 h1 (Ext.refl _ _)⟩
 ·exact False.elim h1
@[simp] def noX (F:List A→Mo A):List A→Mo A:=fun as Ω=>match F as Ω with
 | some (.exc _,_)=>none
 | r=>r
theorem zwY {k:Nat} {ps:List Str} {F:List A→Mo A} (D:DefN X.prog X.w X.K X.mg X.base x k ps F) (hr:Room k X.A) (hg:Gl X x) (ha:VA X W (e :: es) fs)
  (hdb:(x == ("__debug__" : Str))=false:=by decide) (he:starEach (e :: es) X.env=(false,eval e X.env) :: starEach es X.env:=by rfl) (hpl:(backTo pos (starEach es X.env)).any (·.1)=false:=by rfl):VE X W (.Call (.Name x p) (e :: es) [] pos) (vCl (noX (zat ps.length F)) fs):=by
 obtain ⟨t,p1,s1⟩:=ha
 refine ⟨_,zyd D hr hg p1 hdb he hpl,fun G ι Ω H σ ρ Q w r h=>?_⟩
 refine s1 G ι Ω H σ ρ _ w r (Post.mb h fun as Ω1 vs H1 G1 ι1 x1 w1 d1 h1=>?_)
 unfold noX zat at h1
 rw [List.append_nil]
 by_cases hl:as.length=ps.length
 ·rw [if_pos hl] at h1
  refine ⟨by rw [d1.length];exact hl,G1,ι1,Ω1,as,w1,d1,?_⟩
  revert h1
  generalize F as Ω1=q2
  intro h1
  match q2,h1 with
  | some (.ok a,Ω2),h1=>exact h1
 ·rw [if_neg hl] at h1
  exact False.elim h1
abbrev cI (i:Int):Ev→Mo A:=fun _=>ret (.int i)
abbrev cB (i:Bool):Ev→Mo A:=fun _=>ret (.bl i)
abbrev cS (i:Str):Ev→Mo A:=fun _=>ret (.str i)
abbrev cN:Ev→Mo A:=fun _=>ret .non
abbrev cT (n:String):Ev→Mo A:=fun _=>ret (.ty n)
abbrev a0:Ev→Mo (List A):=fun _=>ret []
abbrev sl0:Ev→Mo (Option Int):=fun _=>ret none
end
end V2
namespace V2
open PySem L2
section
variable {α β:Type} {Ω Ω':Sto} {a:A}
@[simp] theorem zAd (x:α) (k:α→Mo β):mb (ret x) k=k x:=rfl
theorem zaV {m:Mo α} {k:α→Mo β} {x:α} (h:m Ω=some (.ok x,Ω')):mb m k Ω=k x Ω':=by unfold mb;rw [h]
@[simp] theorem zz2 (x:α) (k:α→Mo β):mb (need (some x)) k=k x:=rfl
theorem zx8 {p:Prop} [Decidable p] (k:Unit→Mo β) (h:p):mb (chk p) k=k ():=by funext Ω;simp [mb,chk,h]
@[simp] theorem zAc (x:α):(ret x:Mo α) Ω=some (.ok x,Ω):=rfl
@[simp] theorem ze3:trim Ω (some (.ok a,Ω))=some (.ok a,Ω):=by simp only [trim];split <;> rfl
theorem zgE {Δ:Sto} (h:Cl Ω.length a):trim Ω (some (.ok a,Ω ++ Δ))=some (.ok a,Ω):=by
 simp only [trim]
 rw [if_pos ⟨by simp,h⟩]
@[simp] theorem zAb (x:α) (ρ:Ev) (k:α→Sto→OS):sM (ret x) ρ k=k x:=rfl
theorem ze1 {m:Mo α} {ρ:Ev} {k:α→Sto→OS} {x:α} (h:m Ω=some (.ok x,Ω')):sM m ρ k Ω=k x Ω':=by unfold sM;rw [h]
@[simp] theorem zd5 (ρ:Ev):outR (some (.ret a,ρ,Ω))=some (.ok a,Ω):=rfl
@[simp] theorem zlZ (ρ:Ev):outR (some (.nx,ρ,Ω))=some (.ok .non,Ω):=rfl
theorem zap {f g:MS} {ρ ρ1:Ev} (h:f ρ Ω=some (.nx,ρ1,Ω')):sSeq f g ρ Ω=g ρ1 Ω':=by unfold sSeq;rw [h]
theorem zqN {f g:MS} {ρ ρ1:Ev} (h:f ρ Ω=some (.ret a,ρ1,Ω')):sSeq f g ρ Ω=some (.ret a,ρ1,Ω'):=by unfold sSeq;rw [h]
theorem zg6 {α:Type} (xs:List α) (n:Nat):atI xs (n:Int)=xs[n]?:=by
 unfold atI ixN
 rw [if_pos (by omega)]
 by_cases h:(n:Int) < xs.length
 ·rw [if_pos h];simp
 ·rw [if_neg h];simp;omega
theorem zjo {α:Type} (xs:List α) (n:Nat):atI xs (OfNat.ofNat n:Int)=xs[n]?:=zg6 xs n
theorem zhM {α:Type} (xs:List α):atI xs 0=xs[0]?:=zg6 xs 0
theorem znI {α:Type} (xs:List α):atI xs 1=xs[1]?:=zg6 xs 1
end
@[simp] theorem zxh:isTy "int" "int" = some true:=by simp [isTy]
@[simp] theorem zwr:isTy "int" "bool" = some false:=by simp [isTy]
@[simp] theorem zxj (Ω:Sto) (ds:List A):zaD Ω (.lst ds)=some ds:=rfl
@[simp] theorem zxk (Ω:Sto) (ns:List Int):zaD Ω (.scr ns)=some (ns.map A.int):=rfl
@[simp] theorem zxo (Ω:Sto) (ds:List A):zaD Ω (.tup ds)=none:=rfl
@[simp] theorem zxl (Ω:Sto) (i:Int):zaD Ω (.int i)=none:=rfl
@[simp] theorem zxn (Ω:Sto) (ds:List A):zbl Ω (.lst ds)=some ds:=rfl
@[simp] theorem zxm (Ω:Sto) (ns:List Int):zbl Ω (.scr ns)=some (ns.map A.int):=rfl
@[simp] theorem zxi (Ω:Sto) (ds:List A):zbl Ω (.tup ds)=some ds:=rfl
@[simp] theorem zxp (Ω:Sto) (k:Nat):zbl Ω (.cel k)=zaD Ω (.cel k):=rfl
@[simp] theorem zzw (Ω:Sto) (i:Int):tyA Ω (.int i)=some "int":=rfl
@[simp] theorem zAf (Ω:Sto) (i:Bool):tyA Ω (.bl i)=some "bool":=rfl
@[simp] theorem zAa (Ω:Sto) (i:Str):tyA Ω (.str i)=some "str":=rfl
@[simp] theorem zzV (Ω:Sto):tyA Ω .non=some "NoneType":=rfl
@[simp] theorem zzI (Ω:Sto) (ds:List A):tyA Ω (.tup ds)=some "tuple":=rfl
@[simp] theorem zzH (Ω:Sto) (ds:List A):tyA Ω (.lst ds)=some "list":=rfl
@[simp] theorem zyW:zhm .non=some true:=rfl
@[simp] theorem zyB (i:Int):zhm (.int i)=some false:=rfl
@[simp] theorem zxC (ds:List A):zhm (.tup ds)=some false:=rfl
@[simp] theorem zyh (ds:List A):zhm (.lst ds)=some false:=rfl
@[simp] theorem zzg (b:Bool):zhm (.bl b)=some false:=rfl
theorem zaH {Ω:Sto} {k:Nat} {ds:List A} (h:Ω[k]? = some (.lst ds)):zaD Ω (.cel k)=some ds:=by simp [zaD,h]
theorem zcp {Ω:Sto} {k:Nat} {ds:List A} (h:Ω[k]? = some (.lst ds)):zfL Ω (.cel k)=some (k,ds):=by simp [zfL,h]
theorem zg0 {Ω:Sto} {a:A} {ds:List A} (h:zaD Ω a=some ds):isL Ω a:=⟨ds,h⟩
section
variable {ok:Sto→Prop} {g:A→MS} {b:MS} {x:A} {xs:List A} {ρ ρ0 ρ1:Ev} {Ω Ω0 Ω1:Sto} {a:A}
theorem ziZ (h:ok Ω):fFor ok g b [] ρ Ω=some (.nx,ρ,Ω):=by simp [fFor,h]
theorem za7 (h:ok Ω) (hg:g x ρ Ω=some (.nx,ρ0,Ω0)) (hb:b ρ0 Ω0=some (.nx,ρ1,Ω1)):fFor ok g b (x :: xs) ρ Ω=fFor ok g b xs ρ1 Ω1:=by simp [fFor,h,hg,hb]
theorem zvz (h:ok Ω) (hg:g x ρ Ω=some (.nx,ρ0,Ω0)) (hb:b ρ0 Ω0=some (.ct,ρ1,Ω1)):fFor ok g b (x :: xs) ρ Ω=fFor ok g b xs ρ1 Ω1:=by simp [fFor,h,hg,hb]
theorem zuC (h:ok Ω) (hg:g x ρ Ω=some (.nx,ρ0,Ω0)) (hb:b ρ0 Ω0=some (.ret a,ρ1,Ω1)):fFor ok g b (x :: xs) ρ Ω=some (.ret a,ρ1,Ω1):=by simp [fFor,h,hg,hb]
theorem zlo (I:Nat→Ev→Sto→Prop) (hok:∀ i ρ Ω,I i ρ Ω→ok Ω):∀ (xs:List A) (j:Nat) (ρ:Ev) (Ω:Sto),I j ρ Ω →
  (∀ i x ρ Ω,xs[i]? = some x→I (j + i) ρ Ω→∃ ρ0 Ω0 ρ1 Ω1,g x ρ Ω=some (.nx,ρ0,Ω0)∧(b ρ0 Ω0=some (.nx,ρ1,Ω1)∨b ρ0 Ω0=some (.ct,ρ1,Ω1))∧I (j + i + 1) ρ1 Ω1) →
  ∃ ρ' Ω',fFor ok g b xs ρ Ω=some (.nx,ρ',Ω')∧I (j + xs.length) ρ' Ω'
 | [],j,ρ,Ω,h0,_=>⟨ρ,Ω,ziZ (hok _ _ _ h0),h0⟩
 | x :: xs,j,ρ,Ω,h0,turn=>by
  obtain ⟨ρ0,Ω0,ρ1,Ω1,e1,e2,e3⟩:=turn 0 x ρ Ω rfl h0
  obtain ⟨ρ',Ω',q1,q2⟩:=zlo I hok xs (j + 1) ρ1 Ω1 e3 fun i y ρ Ω hy hI=>by
   have:=turn (i + 1) y ρ Ω (by simpa using hy) (by rw [show j + (i + 1)=j + 1 + i by omega];exact hI)
   rwa [show j + (i + 1) + 1=j + 1 + i + 1 by omega] at this
  refine ⟨ρ',Ω',?_,by rw [List.length_cons,show j + (xs.length + 1)=j + 1 + xs.length by omega];exact q2⟩
  rcases e2 with e2 | e2
  ·rw [za7 (hok _ _ _ h0) e1 e2,q1]
  ·rw [zvz (hok _ _ _ h0) e1 e2,q1]
end
section
variable {c:Ev→Mo Bool} {b:MS} {n:Nat} {ρ ρ1:Ev} {Ω Ω1 Ω2:Sto} {a:A}
end
end V2
namespace V2
open PySem PySem.Spec PyProof.Rows L2
def Ite (K:PySem.W.Frag) (a:Addr):It :=
 ⟨fun i H=>∃ xs x,SqL K H a xs∧xs[i]? = some x,fun i H x H'=>∃ p y,H p=none∧H'=upd H p (.tup [.int (i:Int),y])∧x = .ref p∧∀ xs,SqL K H a xs→xs[i]? = some y,fun i H=>∃ xs,SqL K H a xs∧xs.length ≤ i⟩
section
variable {X:Cx} {pins:List (Addr × Obj)} {σ:L2.St} {H:Hp} {s:Shared} {h':Heap}
theorem Inv.zrQ {t':Nat} {e it:Addr} (I:Inv X pins σ H s) (k:∀ b o,b ≠ e→b ≠ it→s.heap.get? b=some o→h'.get? b=some o) (fe:FpOk X pins H e) (ft:FpOk X pins H it):Inv X pins σ H { s with heap:=h',toks:=t' }:=by
 obtain ⟨a0,a1,a2,a3,a4,a5⟩:=fe
 obtain ⟨b0,b1,b2,b3,b4,b5⟩:=ft
 have ne:∀ b u,H b=some u→b ≠ e:=fun b u q z=>by rw [z,a0] at q;cases q
 have nit:∀ b u,H b=some u→b ≠ it:=fun b u q z=>by rw [z,b0] at q;cases q
 refine I.step (g':=s.gens) (d':=s.drawn) (ch:=[e,it]) (fun b hb=>?_) (fun b o _ _ hc q _=>k b o (fun z=>hc (by simp [z])) (fun z=>hc (by simp [z])) q) (fun b o _ _ hc q _=>⟨o.slots,k b o (fun z=>hc (by simp [z])) (fun z=>hc (by simp [z])) q⟩) (fun _ _ _ _ n=>n)
  (fun b o hc q=>⟨o,k b o (fun z=>hc (by simp [z])) (fun z=>hc (by simp [z])) q⟩) (fun _ _ q=>q) (fun _ _ _ q=>q) (fun b ps q=>⟨#[],by rw [q];simp⟩) (fun m hm=>?_) (fun b u q=>?_) I.bare
 ·rcases List.mem_cons.mp hb with z | z
  ·subst z;exact ⟨a3,a1,a4,a5⟩
  ·have z:b=it:=by simpa using z
   subst z;exact ⟨b3,b1,b4,b5⟩
 ·obtain ⟨o,es,ep,ho,r⟩:=hm
  exact ⟨o,es,ep,k _ o (Ne.symm a1) (Ne.symm b1) ho,r⟩
 ·refine (I.hok b u q).stay (fun c v hc q'=>k c v ?_ ?_ q') (fun _ q=>q) fun _ _ q=>q
  ·rcases hc with z | z
   ·rw [z];exact ne b u q
   ·exact ne c _ z
  ·rcases hc with z | z
   ·rw [z];exact nit b u q
   ·exact nit c _ z
end
theorem Inv.zw1 {X:Cx} {pins:List (Addr × Obj)} {σ:L2.St} {H:Hp} {s:Shared} {p:Addr} {o:HO} (I:Inv X pins σ H s) (hp:H p=none) (h0:X.s₀.heap.get? p=none) (hL:p ≠ X.env.locals) (hC:∀ x c,X.env.cells.lookup x=some c→c ≠ p) (hP:∀ q ∈ X.pn ++ pins,q.1 ≠ p)
  (hok:HOk X.prog X.w (upd H p o) s.heap):Inv X pins σ (upd H p o) s where
 ok:=I.ok
 os:=I.os
 bare:=I.bare
 base:={
  keep:=I.base.keep
  slot:=I.base.slot
  free:=fun b ob q n hx=>by
   have hb:b ≠ p:=fun z=>by subst z;rw [h0] at q;cases q
   rw [zan hb];exact I.base.free b ob q n hx
  there:=I.base.there
  tups:=fun b xs q=>by have z:=I.base.tups b xs q;rw [zan (zaz z hp)];exact z
  frzs:=fun b ob u q=>by have z:=I.base.frzs b ob u q;rw [zan (zaz z hp)];exact z
  tbls:=fun b ps q=>by obtain ⟨more,z⟩:=I.base.tbls b ps q;exact ⟨more,by rw [zan (zaz z hp)];exact z⟩ }
 loc:=I.loc
 cell:=I.cell
 free:=by rw [zan (Ne.symm hL)];exact I.free
 freeC:=fun x c q=>by rw [zan (hC x c q)];exact I.freeC x c q
 pin:=fun q hq=>by
  obtain ⟨a,b,c⟩:=I.pin q hq
  exact ⟨a,by rw [zan (hP q hq)];exact b,c⟩
 hok:=hok
 len:=I.len
theorem zsz {P:Program} {w:World} {K:PySem.W.Frag} {elts:List Expr} {x1:Nat} {tp:Pos} (a e it:Addr) (hne:e ≠ it):Turn P w K (.Tuple elts x1 tp) (Ite K a) [e,it] e (fun i h=>(∃ old,IsEnum h e it (i:Int) old)∧h.IsListIter it a i) where
 mem:=by simp
 obj:=fun i h st b hb=>by
  obtain ⟨⟨old,st1⟩,o,q,c,d⟩:=st
  rcases List.mem_cons.mp hb with z | z
  ·subst z;exact ⟨_,st1,fun v z=>by cases z⟩
  ·have z:b=it:=by simpa using z
   subst z;exact ⟨o,q,fun v z=>by rw [d] at z;cases z⟩
 keep:=fun i h h' st k=>⟨let ⟨old,q⟩:=st.1; ⟨old,k e (by simp) _ q⟩,st.2.at fun o q=>k it (by simp) o q⟩
 item:=by
  intro X hP hw hK hc i pins s σ H E I hf st hg
  subst hP hw hK
  obtain ⟨⟨old,st1⟩,st2⟩:=st
  obtain ⟨xs,x,hq,hx⟩:=hg
  obtain ⟨its,rv,p,hz⟩:=I.list hq
  obtain ⟨u,hu,ru⟩:=rv.get hx
  have fe:=hf e (by simp)
  have ft:=hf it (by simp)
  have hse:e < s.heap.objs.size:=Heap.lt_size st1
  have hsi:it < s.heap.objs.size:=let ⟨_,q,_⟩:=st2;Heap.lt_size q
  refine wpAny_pyNext_enum_item st1 st2 p.isList (x:=u) (by simpa using hu) hne fun h1 e1 i1 t1 z1 k1=>?_
  refine ⟨_,rfl,wpAny_letOwnedTupleGo_enum (s:={ s with heap:=h1,toks:=s.toks + 1 }) e1 fun h2 e2 s2=>?_⟩
  have hp0:H s.heap.objs.size=none:=I.hok.fresh (Nat.le_refl _)
  have k2:∀ b o,b ≠ e→b ≠ it→s.heap.get? b=some o→h2.get? b=some o:=fun b o n1 n2 q=>s2.extBut b o n1 (k1 b o n1 n2 q)
  have t2:h2.get? s.heap.objs.size=some { cls := .type "tuple",data := .seq #[.int (i:Int) s.toks,u] }:=s2.extBut _ _ (Nat.ne_of_gt hse) t1
  have I1:Inv X pins σ H { s with heap:=h2,toks:=s.toks + 1 }:=Inv.zrQ (t':=s.toks + 1) I k2 fe ft
  have i2:h2.IsListIter it a (i + 1):=i1.extBut s2.extBut (Ne.symm hne)
  have hok:HOk X.prog X.w (upd H s.heap.objs.size (.tup [.int (i:Int),x])) h2:=by
   refine fun b o q=>?_
   by_cases eb:b=s.heap.objs.size
   ·subst eb
    rw [zay] at q
    cases q
    exact ⟨by show 2 ≤ sizeLine;decide,[.int (i:Int) s.toks,u], .cons ⟨_,rfl⟩ (.cons ru .nil),⟨_,t2,rfl,_,rfl⟩⟩
   ·rw [zan eb] at q
    exact (I1.hok b o q).stay (fun c v _ z=>z) (fun c z=>by rw [zan (zaz z hp0)];exact z) fun c xs z=>by rw [zan (zaz z hp0)];exact z
  have fp:FpOk X pins H s.heap.objs.size:=I.fpOk (Nat.le_refl _) hp0
  have h0:X.s₀.heap.get? s.heap.objs.size=none:=by
   cases q:X.s₀.heap.get? s.heap.objs.size with
   | none=>rfl
   | some ob=>exact absurd (Nat.lt_of_lt_of_le (Heap.lt_size q) I.sz) (Nat.lt_irrefl _)
  have I2:Inv X pins σ (upd H s.heap.objs.size (.tup [.int (i:Int),x])) { s with heap:=h2,toks:=s.toks + 1 }:=Inv.zw1 I1 hp0 h0 fp.2.1 fp.2.2.2.2.1 fp.2.2.2.2.2 hok
  refine ⟨.ref s.heap.objs.size,_,I2,rfl,⟨_,x,hp0,rfl,rfl,fun ys hy=>by rw [I.zlX hy hq];exact hx⟩,⟨⟨_,e2⟩,i2⟩,fun b hb=>?_⟩
  rcases List.mem_cons.mp hb with z | z
  ·subst z;rw [zan (Nat.ne_of_lt hse)];exact fe.1
  ·have z:b=it:=by simpa using z
   subst z;rw [zan (Nat.ne_of_lt hsi)];exact ft.1
 done:=by
  intro X hP hw hK hc i pins s σ H E I hf st hg
  subst hP hw hK
  obtain ⟨⟨old,st1⟩,st2⟩:=st
  obtain ⟨xs,hq,hx⟩:=hg
  obtain ⟨its,rv,p,hz⟩:=I.list hq
  obtain ⟨f0,f1,f2,f3,f4,f5⟩:=hf it (by simp)
  have hl:=rv.length
  exact wpAny_pyNext_enum_end (I.ok.hd hc) st1 st2 p.isList (by simp;omega) fun h' eb=>⟨rfl,I.turned (t':=s.toks) (fun b o hb e=>eb b o hb e) f0 f1 f3 f4 f5⟩
 self:=fun _ _ _ _ _ st h=>let ⟨_,q⟩:=st.1;wpAny_pyIter_enum q h
section
variable {X:Cx} {W:WX} {pos:Pos}
theorem zwg {elts:List Expr} {x1:Nat} {tp p:Pos} {l:Expr} {tl:TE} (hg:Gl X "enumerate") (hm:X.mg "enumerate" = none) (hl:PE X l tl) (hs:starEach [l] X.env=[(false,eval l X.env)]:=by rfl) :
  PI X (.Tuple elts x1 tp) (.Call (.Name "enumerate" p) [l] [] pos) (fun σ H R=>tl σ H fun x H1=>∃ a,x = .ref a∧(∃ xs,SqL X.K H1 a xs)∧R (Ite X.K a) H1):=by
 intro pins s σ H R I h
 refine wpAny_Call_Name_kw (zmu I hg hm boot_enumerate ?_)
 refine PyProof.Rows.callWith_type1 (thn (zn2 hl zsv hs pos pins s σ H (fun vs H1=>match vs with
  | [x]=>∃ a,x=V.ref a∧(∃ xs,SqL X.K H1 a xs)∧R (Ite X.K a) H1
  | _=>False) I h) fun us s1 ⟨vs,H1,I1,r1,q1⟩=>?_) hs rfl
 match vs,q1 with
 | [x],q1 =>
 obtain ⟨a,e1,⟨xs,hq⟩,q⟩:=q1
 obtain ⟨u,rfl,ru⟩:=vals1 r1
 subst e1
 cases ru
 obtain ⟨its,rv,pl,hz⟩:=I1.list hq
 refine call_enumerate_list pl.isList fun h' hE hI hsz hk=>?_
 refine wpAny_pyIter_enum (s:={ s1 with heap:=h' }) hE ?_
 have I2:Inv X pins σ H1 { s1 with heap:=h' }:=I1.kept (t':=s1.toks) hk
 refine ⟨_,[s1.heap.objs.size + 1,s1.heap.objs.size],_,_,H1,rfl,I2,zsz a _ _ (Nat.succ_ne_self _),⟨⟨.none,hE⟩,hI⟩,fun b hb=>?_,q⟩
 rcases List.mem_cons.mp hb with z | z
 ·subst z;exact I1.fpOk (Nat.le_succ _) (I1.hok.fresh (Nat.le_succ _))
 ·have z:b=s1.heap.objs.size:=by simpa using z
  subst z;exact I1.fpOk (Nat.le_refl _) (I1.hok.fresh (Nat.le_refl _))
def zaZ:Nat→List A→List A
 | _,[]=>[]
 | n,x :: xs => .tup [.int (n:Int),x] :: zaZ (n + 1) xs
theorem zhO:∀ (n:Nat) (xs:List A),(zaZ n xs).length=xs.length
 | _,[]=>rfl
 | n,x :: xs=>by simp only [zaZ,List.length_cons,zhO (n + 1) xs]
theorem zk0:∀ (n i:Nat) (xs:List A),(zaZ n xs)[i]? = xs[i]?.map fun x => .tup [.int ((n + i:Nat):Int),x]
 | _,_,[]=>by simp [zaZ]
 | n,0,x :: xs=>by simp [zaZ]
 | n,i + 1,x :: xs=>by
  simp only [zaZ,List.getElem?_cons_succ]
  rw [zk0 (n + 1) i xs]
  have e:n + 1 + i=n + (i + 1):=by omega
  rw [e]
def enumSrc (a:A) (ds:List A):Src:=⟨zaZ 0 ds,fun Ω=>zaD Ω a=some ds⟩
@[simp] def zvk (f:Ev→Mo A):Ev→Mo Src:=fun ρ=>mb (f ρ) fun a Ω=>match zaD Ω a with
 | some ds=>some (.ok (enumSrc a ds),Ω)
 | none=>none
theorem zt2 {K:PySem.W.Frag} {G:Hp} {ι:List Addr} {p:Addr} {a:A} {ds:List A} (d:Den K G ι (.ref p) a):ItV K G ι (Ite K p) (enumSrc a ds):=by
 have key:∀ G' ι' Ω' H',Ext G ι G' ι'→Wd K G' ι' Ω' H'→zaD Ω' a=some ds→∃ xs,SqL K H' p xs∧DenL K G' ι' xs ds:=fun G' ι' Ω' H' e w h=>by
  obtain ⟨q,xs,h1,h2,h3⟩:=zco w (d.ext e) h
  cases h1
  exact ⟨xs,h2,h3⟩
 refine ⟨fun G' ι' Ω' H' e w h i hi=>?_,fun G' ι' Ω' H' e w h i hi=>?_,fun G' ι' Ω' H' e w h i x H2 y hy hd=>?_⟩
 ·obtain ⟨xs,h2,h3⟩:=key G' ι' Ω' H' e w h
  have hl:i < xs.length:=by rw [h3.length,← zhO 0 ds];exact hi
  exact ⟨xs,xs[i],h2,List.getElem?_eq_getElem hl⟩
 ·obtain ⟨xs,h2,h3⟩:=key G' ι' Ω' H' e w h
  exact ⟨xs,h2,by rw [h3.length,← zhO 0 ds];exact hi⟩
 ·obtain ⟨xs,h2,h3⟩:=key G' ι' Ω' H' e w h
  obtain ⟨q,z,e1,e2,e3,e4⟩:=hd
  subst e2 e3
  have hy':(zaZ 0 ds)[i]? = some y:=hy
  rw [zk0] at hy'
  cases ed:ds[i]? with
  | none=>rw [ed] at hy';cases hy'
  | some d' =>
   rw [ed] at hy'
   cases hy'
   obtain ⟨z',q1,q2⟩:=h3.get ed
   rw [e4 xs h2] at q1
   cases q1
   refine ⟨upd G' q (.tup [.int (i:Int),z]),Ext.new (w.zg9 e1) _,w.new e1 _,?_⟩
   simp only [Den]
   exact ⟨q,_,rfl,zay, .cons (by simp only [Den,Nat.zero_add]) (.cons (q2.ext (Ext.new (w.zg9 e1) _)) .nil)⟩
theorem zr2 {elts:List Expr} {x1:Nat} {tp p:Pos} {l:Expr} {fe:Ev→Mo A} (hg:Gl X "enumerate") (hm:X.mg "enumerate" = none) (h:VE X W l fe) (hs:starEach [l] X.env=[(false,eval l X.env)]:=by rfl) :
  VI X W (.Tuple elts x1 tp) (.Call (.Name "enumerate" p) [l] [] pos) (zvk fe):=by
 obtain ⟨t,p,s⟩:=h
 refine ⟨_,zwg hg hm p hs,fun G ι Ω H σ ρ R w r h=>?_⟩
 refine s G ι Ω H σ ρ _ w r (Post.mb h fun a Ω1 v H1 G1 ι1 x1 w1 d1 h1=>?_)
 cases e:zaD Ω1 a with
 | none=>simp only [e] at h1;exact False.elim h1
 | some ds =>
  simp only [e] at h1
  obtain ⟨q,xs,h2,h3,h4⟩:=zco w1 d1 e
  subst h2
  exact ⟨q,rfl,⟨xs,h3⟩,h1 _ H1 G1 ι1 (Ext.refl _ _) w1 (zt2 d1)⟩
theorem zua {st:Stmt}:VS X W st (fun _ _=>none):=⟨_,zuH,fun _ _ _ _ _ _ _ _ _ h=>h.elim⟩
end
end V2
namespace V2
open PySem PySem.Spec PyProof.Rows L2
def lcEv (n:Nat) (js:List Nat) (ρ:Ev):Ev:=List.replicate n none ++ js.map (fun j=>(ρ[j]?).join)
def VIf (X:Cx) (W:WX) (ifs:List Expr) (f:Ev→Mo Bool):Prop:=∃ t,PIf X ifs t∧Sim X.K relB W t f
abbrev yesM:Ev→Mo Bool:=fun _=>ret true
theorem zj1 {X:Cx} {W:WX}:VIf X W [] yesM:=⟨_,zvU,fun _ _ _ _ _ _ _ w _ q=>zbY w rfl q⟩
theorem zru {X:Cx} {W:WX} {c:Expr} {f:Ev→Mo Bool} (h:VT X W c f):VIf X W [c] f:=let ⟨t,p,s⟩:=h; ⟨t,zwt p,s⟩
open Classical in
noncomputable def fLC (ok:Sto→Prop) (g:A→MS) (c:Ev→Mo Bool) (e:Ev→Mo A) (n:Nat):List A→Ev→Sto→Option (Ev × Sto)
 | [],ρ,Ω=>if ok Ω then some (ρ,Ω) else none
 | x :: xs,ρ,Ω=>if ok Ω then (match g x ρ Ω with
  | some (.nx,ρ1,Ω1)=>(match c ρ1 Ω1 with
   | some (.ok true,Ω2)=>(match e ρ1 Ω2 with
    | some (.ok y,Ω3)=>(match Ω3[n]? with
     | some (.lst ys)=>if ys.length < sizeLine then fLC ok g c e n xs ρ1 (Ω3.set n (.lst (ys ++ [y]))) else none
     | _=>none)
    | _=>none)
   | some (.ok false,Ω2)=>fLC ok g c e n xs ρ1 Ω2
   | _=>none)
  | _=>none) else none
open Classical in
noncomputable def zvw (cf:Bool) (Ω1:Sto) (r:Option (Ev × Sto)):Option (Rs A × Sto):=match r with
 | some (_,Ω')=>(match Ω'[Ω1.length]? with
  | some (.lst ys)=>if cf then some (.ok (.cel Ω1.length),Ω') else if Ω'.take Ω1.length=Ω1∧ClL Ω1.length ys then some (.ok (.lst ys),Ω1) else some (.ok (.lst ys),Ω'.set Ω1.length .dead)
  | _=>none)
 | none=>none
noncomputable def vLC (cf:Bool) (n:Nat) (js:List Nat) (fi:Ev→Mo Src) (g:A→MS) (c:Ev→Mo Bool) (e:Ev→Mo A):Ev→Mo A:=fun ρ=>mb (fi ρ) fun S Ω1=>zvw cf Ω1 (fLC S.ok g c e Ω1.length S.ds (lcEv n js ρ) (Ω1 ++ [.lst []]))
theorem zxu {ok:Sto→Prop} {g:A→MS} {c:Ev→Mo Bool} {e:Ev→Mo A} {n:Nat} {xs:List A} {ρ:Ev} {Ω:Sto} {r:Ev × Sto} (h:fLC ok g c e n xs ρ Ω=some r):ok Ω:=by
 cases xs with
 | nil=>unfold fLC at h;by_cases hp:ok Ω;exact hp;rw [if_neg hp] at h;cases h
 | cons=>unfold fLC at h;by_cases hp:ok Ω;exact hp;rw [if_neg hp] at h;cases h
theorem zwd {K:PySem.W.Frag} {G:Hp} {ι:List Addr} {σ:L2.St} {ρ:Ev} (ls:List Str) (js:List Nat) (r:EnvR K G ι σ ρ):EnvR K G ι (lcSt ls js σ) (lcEv ls.length js ρ):=by
 unfold lcSt lcEv
 refine ⟨by simp,fun i d h=>?_⟩
 by_cases hi:i < ls.length
 ·rw [List.getElem?_append_left (by simpa using hi)] at h
  rw [List.getElem?_replicate,if_pos hi] at h
  cases h
 ·rw [List.getElem?_append_right (by simpa using Nat.le_of_not_lt hi),List.length_replicate,List.getElem?_map] at h
  cases e:js[i - ls.length]? with
  | none=>rw [e] at h;cases h
  | some j =>
   rw [e] at h
   have h':(ρ[j]?).join=some d:=Option.some.inj h
   obtain ⟨v,q1,q2⟩:=r.2 j d (join_some h')
   refine ⟨v,?_,q2⟩
   rw [List.getElem?_append_right (by simpa using Nat.le_of_not_lt hi),List.length_map,List.getElem?_map,e]
   show some (σ[j]?).join=_
   rw [q1];rfl
section
variable {K:PySem.W.Frag} {W:WX}
theorem zyU {ls:List Str} {js:List Nat} {wi:TI} {tg:TG} {tc:TT} {te:TE} {fi:Ev→Mo Src} {g:A→MS} {c:Ev→Mo Bool} {e:Ev→Mo A} {cf:Bool} (W0:WX) (hi:Sim K (relI K) W wi fi) (hg:SimG K W0 tg g) (hc:Sim K relB W0 tc c) (he:Sim K (Den K) W0 te e) :
  Sim K (Den K) W (tLC ls js wi tg tc te) (vLC cf ls.length js fi g c e):=by
 intro G ι Ω H σ ρ Q w r h
 refine hi G ι Ω H σ ρ _ w r (Post.mb h fun S Ω1 J H1 G1 ι1 x1 w1 j1 h1=>?_)
 intro D hD
 unfold zvw at h1
 cases er:fLC S.ok g c e Ω1.length S.ds (lcEv ls.length js ρ) (Ω1 ++ [.lst []]) with
 | none=>rw [er] at h1;exact False.elim h1
 | some rr =>
 obtain ⟨ρe,Ωe⟩:=rr
 rw [er] at h1
 simp only at h1
 have hw0:Wd K G1 (ι1 ++ [D]) (Ω1 ++ [.lst []]) (upd H1 D (.lst [])):=w1.cell hD ⟨w1.zg9 hD,[],zay, .nil⟩
 have r0:EnvR K G1 (ι1 ++ [D]) (lcSt ls js σ) (lcEv ls.length js ρ):=zwd ls js (r.ext (x1.trans (Ext.cell D)))
 have hDk:(ι1 ++ [D])[Ω1.length]? = some D:=by rw [← w1.len];simp
 refine ⟨fun i m σ' H'=>m=S.ds.length - i∧i ≤ S.ds.length∧∃ G' ι' Ω' ρ',Ext G1 (ι1 ++ [D]) G' ι'∧Wd K G' ι' Ω' H'∧EnvR K G' ι' σ' ρ'∧fLC S.ok g c e Ω1.length (S.ds.drop i) ρ' Ω'=some (ρe,Ωe),
  ⟨_,rfl,Nat.zero_le _,G1,_,_,_,Ext.refl _ _,hw0,r0,by simpa using er⟩,?_⟩
 rintro i m σ' H' ⟨rfl,hil,G',ι',Ω',ρ',e',w',r',h'⟩
 have hok:=zxu h'
 have eJ:Ext G1 ι1 G' ι':=(Ext.cell D).trans e'
 by_cases hlt:i < S.ds.length
 ·right
  refine ⟨j1.go G' ι' Ω' H' eJ w' hok i hlt,fun σ2 H2=>∃ G2 ι2 Ω2 ρ2,Ext G1 (ι1 ++ [D]) G2 ι2∧Wd K G2 ι2 Ω2 H2∧EnvR K G2 ι2 σ2 ρ2∧fLC S.ok g c e Ω1.length (S.ds.drop (i + 1)) ρ2 Ω2=some (ρe,Ωe),fun σ2 H2 n=>?_,fun x H2 y=>?_⟩
  ·exact ⟨S.ds.length - (i + 1),by omega,rfl,hlt,n⟩
  ·obtain ⟨G2,e2,w2,d2⟩:=j1.yld G' ι' Ω' H' eJ w' hok i x H2 S.ds[i] (List.getElem?_eq_getElem hlt) y
   rw [List.drop_eq_getElem_cons hlt] at h'
   unfold fLC at h'
   rw [if_pos hok] at h'
   refine hg G2 ι' Ω' H2 σ' ρ' x S.ds[i] ⟨_,fun _ _=>False,fun _ _=>False,fun _ _=>False⟩ w2 (r'.ext e2) d2 ?_
   revert h'
   generalize g S.ds[i] ρ' Ω'=q
   intro h'
   split at h'
   ·rename_i ρ3 Ω3
    intro σ3 H3 G3 ι3 x3 w3 r3
    refine hc G3 ι3 Ω3 H3 σ3 ρ3 _ w3 r3 ?_
    revert h'
    generalize c ρ3 Ω3=q2
    intro h'
    split at h'
    ·rename_i Ω4
     intro b H4 G4 ι4 x4 w4 hb
     cases (show b=true from hb)
     rw [if_pos rfl]
     refine he G4 ι4 Ω4 H4 σ3 ρ3 _ w4 (r3.ext x4) ?_
     revert h'
     generalize e ρ3 Ω4=q3
     intro h'
     split at h'
     ·rename_i z Ω5
      intro v H5 G5 ι5 x5 w5 d5
      split at h'
      ·rename_i ys ey
       split at h'
       ·rename_i hl
        have eD:=(((e'.trans e2).trans x3).trans x4).trans x5
        have hk:=eD.pre _ _ hDk
        obtain ⟨gg,xs,q1,q2⟩:=w5.cel _ _ D ey hk
        refine ⟨xs,q1,by rw [q2.length];exact hl,G5,ι5,_,ρ3,eD,w5.put (c := .lst (ys ++ [z])) hk gg ⟨gg,_,zay,q2.append (.cons d5 .nil)⟩,(r3.ext x4).ext x5,h'⟩
       ·cases h'
      ·cases h'
     ·cases h'
    ·rename_i Ω4
     intro b H4 G4 ι4 x4 w4 hb
     cases (show b=false from hb)
     rw [if_neg (by simp)]
     exact ⟨G4,ι4,Ω4,ρ3,((e'.trans e2).trans x3).trans x4,w4,r3.ext x4,h'⟩
    ·cases h'
   ·cases h'
 ·have hie:i=S.ds.length:=by omega
  subst hie
  left
  refine ⟨j1.stop G' ι' Ω' H' eJ w' hok _ (Nat.le_refl _),?_⟩
  rw [List.drop_length] at h'
  unfold fLC at h'
  rw [if_pos hok] at h'
  cases h'
  split at h1
  ·rename_i ys ey
   have hk:=e'.pre _ _ hDk
   obtain ⟨gg,xs,q1,q2⟩:=w'.cel _ _ D ey hk
   split at h1
   ·exact h1 _ H' G' ι' eJ w' (by simp only [Den];exact ⟨D,rfl,hk⟩)
   ·have wf:=w'.freeze hk gg q1
    split at h1
    ·rename_i hcut
     have eC:Ext G1 ι1 (upd G' D (.lst xs)) ι':=eJ.trans (Ext.new gg _)
     have wc:=w1.cut wf eC (by rw [List.take_set_of_le (Nat.le_refl _)];exact hcut.1)
     refine h1 _ H' _ ι1 ⟨eC.same,fun _ _ q=>q⟩ wc ?_
     simp only [Den]
     exact ⟨D,xs,rfl,zay,(q2.ext (Ext.new gg _)).cut eC.cut (by rw [w1.len];exact hcut.2)⟩
    ·refine h1 _ H' _ ι' (eJ.trans (Ext.new gg _)) wf ?_
     simp only [Den]
     exact ⟨D,xs,rfl,zay,q2.ext (Ext.new gg _)⟩
  ·exact False.elim h1
end
def tCan {α β:Type} (K:PySem.W.Frag) (rel:Rl α β) (W:WX) (f:Ev→Mo α):L2.St→Hp→(β→Hp→Prop)→Prop:=fun σ H Q=>∃ G ι Ω ρ,Wd K G ι Ω H∧EnvR K G ι σ ρ∧Post K rel W G ι σ Q (f ρ Ω)
def zx4 (K:PySem.W.Frag) (W:WX) (g:A→MS):TG:=fun v σ H Q=>∃ G ι Ω ρ a D,Wd K G ι Ω H∧EnvR K G ι σ ρ∧Den K G ι v a∧zb6 K W G ι D (g a ρ Ω)∧D.nx=Q
theorem zqw {α β:Type} {K:PySem.W.Frag} {rel:Rl α β} {W:WX} {f:Ev→Mo α}:Sim K rel W (tCan K rel W f) f:=fun G ι Ω H σ ρ Q w r h=>⟨G,ι,Ω,ρ,w,r,h⟩
theorem ztH {K:PySem.W.Frag} {W:WX} {g:A→MS}:SimG K W (zx4 K W g) g:=fun G ι Ω H σ ρ v a D w r d h=>⟨G,ι,Ω,ρ,a,D,w,r,d,h,rfl⟩
theorem VE.can {X:Cx} {W:WX} {e:Expr} {f:Ev→Mo A} (h:VE X W e f):PE X e (tCan X.K (Den X.K) W f):=by
 obtain ⟨t,p,s⟩:=h
 exact fun pins sh σ H Q I ⟨G,ι,Ω,ρ,w,r,q⟩=>p pins sh σ H Q I (s G ι Ω H σ ρ Q w r q)
theorem VIf.can {X:Cx} {W:WX} {ifs:List Expr} {f:Ev→Mo Bool} (h:VIf X W ifs f):PIf X ifs (tCan X.K relB W f):=by
 obtain ⟨t,p,s⟩:=h
 exact fun pins sh σ H Q I ⟨G,ι,Ω,ρ,w,r,q⟩=>p pins sh σ H Q I (s G ι Ω H σ ρ Q w r q)
theorem VG.can {X:Cx} {W:WX} {tg:Expr} {g:A→MS} (h:VG X W tg g):PG X tg (zx4 X.K W g):=by
 obtain ⟨t,p,s⟩:=h
 exact fun pins sh σ H v u Q I rv ⟨G,ι,Ω,ρ,a,D,w,r,d,q,e⟩=>p pins sh σ H v u Q I rv (e ▸ s G ι Ω H σ ρ v a D w r d q)
abbrev noW:WX:=fun _ _ _ _=>False
theorem zn5 {X:Cx} {W:WX} {elt tg iter:Expr} {ifs:List Expr} {scope:Scope} {pos:Pos} {fi:Ev→Mo Src} {g:A→MS} {c:Ev→Mo Bool} {e:Ev→Mo A} (cf:Bool) (ls:List Str) (js:List Nat) (hc:X.calm=true) (L:LcOk X scope ls js) (hi:VI X W tg iter fi)
  (hb:∀ cl C s H fp,VG (lcCx X scope ls js cl C s H fp) noW tg g∧VIf (lcCx X scope ls js cl C s H fp) noW ifs c∧VE (lcCx X scope ls js cl C s H fp) noW elt e)
  (hs:∀ x,foldedSetIterable iter X.env x=pure x:=by intro _;rfl):VE X W (.ListComp elt [⟨tg,iter,ifs,0⟩] scope pos) (vLC cf ls.length js fi g c e):=by
 obtain ⟨t1,p1,s1⟩:=hi
 exact ⟨_,zz3 hc L p1 (fun cl C s H fp=>⟨(hb cl C s H fp).1.can,(hb cl C s H fp).2.1.can,(hb cl C s H fp).2.2.can⟩) hs,zyU _ s1 ztH zqw zqw⟩
end V2
namespace V2
open PySem PySem.Spec PyProof.Rows L2
def sortI (ns:List Int):List Int:=ns.mergeSort fun a b=>decide (a ≤ b)
theorem sortI_perm (ns:List Int):(sortI ns).Perm ns:=List.mergeSort_perm ns _
theorem zpd (ns:List Int):(sortI ns).Pairwise (· ≤ ·):=by
 have h:=List.pairwise_mergeSort (le:=fun a b:Int=>decide (a ≤ b)) (fun a b c h1 h2=>by simp at h1 h2 ⊢;omega) (fun a b=>by simp;omega) ns
 exact h.imp fun h=>of_decide_eq_true h
theorem zm0 {ns ms:List Int} (p:ms.Perm ns) (h:ms.Pairwise (· ≤ ·)):ms=sortI ns :=
 List.Perm.eq_of_pairwise (le:=(· ≤ ·)) (fun a b _ _ h1 h2=>Int.le_antisymm h1 h2) h (zpd ns) (p.trans (sortI_perm ns).symm)
theorem ziH (ns:List Int):(sortI ns).length=ns.length:=(sortI_perm ns).length_eq
section
variable {X:Cx} {W:WX}
end
end V2
namespace M
open PySem V2
noncomputable def zkS:MS :=
 (sSeq (sAsg (vOp (gMod) (vOp (gMul) (vOp (gAdd false) (vVar 0) (cI 1)) (vOp (gAdd false) (cI 48271) (vOp (gMul) (cI 118) (vVar 1)))) (cI 2147483629)) (gN 2))
  (sRet (vOp (gMod) (vOp (gAdd false) (vOp (gAdd false) (vOp (gMul) (vOp (gDiv) (vVar 2) (cI 977)) (cI 16807)) (vOp (gMul) (vVar 2) (vOp (gAdd false) (vOp (gMul) (vVar 1) (vVar 1)) (cI 7)))) (vVar 1)) (cI 2147483587))))
noncomputable def zbi:List A→Mo A:=fnF 3 zkS
noncomputable def zhg:MS :=
 (sSeq (sAsg (cI 0) (gN 2))
  (sSeq (sIf (zaP (vOp gLt (vVar 1) (vCl gLen (zab (vVar 0) a0))))
   (sAsg (vOp (gMod) (vOp gIx (vVar 0) (vVar 1)) (cI 2147483647)) (gN 2))
   sNx)
  (sRet (vCl (zat 2 zbi) (zab (vVar 2) (zab (vOp (gAdd false) (vVar 1) (cI 101)) a0))))))
noncomputable def zba:List A→Mo A:=fnF 3 zhg
end M
namespace M
open PySem V2
noncomputable def zcq:MS :=
 (sSeq (sAsg (vOp gIx (vVar 0) (cI 3)) (gN 2))
  (sSeq (sAsg (vIf (zaP (vOp gGt (vVar 1) (cI 0))) (vOp gIx (vOp gIx (vVar 2) (vOp (gSub) (vVar 1) (cI 1))) (cI 1)) (cI 0)) (gN 3))
  (sSeq (sAsg (vIf (zaP (vOp gLt (vVar 1) (vCl gLen (zab (vVar 2) a0)))) (vOp (gSub) (vOp gIx (vOp gIx (vVar 2) (vVar 1)) (cI 2)) (cI 1)) (vOp gIx (vVar 0) (cI 0))) (gN 4))
  (sRet (vTup (zab (vVar 3) (zab (vVar 4) a0)))))))
noncomputable def zbg:List A→Mo A:=fnF 5 zcq
end M
namespace M
open PySem V2
noncomputable def zfq:MS :=
 (sRet (vOr (vOp gEq (vOp gIx (vVar 1) (cI 0)) (vOp gIx (vVar 0) (cI 0))) (vOp gLe (vOp gIx (vVar 1) (cI 2)) (vOp (gAdd false) (vOp (gAdd false) (vOp gIx (vVar 0) (cI 1)) (vVar 2)) (cI 1)))))
noncomputable def zb7:List A→Mo A:=fnF 3 zfq
noncomputable def zaN:MS :=
 (sIf (vOrT (zaP (vOp gEq (vVar 4) (cI 0))) (vOrT (zaP (vOp gEq (vVar 4) (vVar 3))) (zjl (zaP (vCl (zat 3 zb7) (zab (vOp gIx (vVar 2) (vNeg (cI 1))) (zab (vOp gIx (vVar 0) (vOp (gAdd false) (vVar 4) (cI 1))) (zab (vVar 1) a0))))))))
    (sExp (vBM zcS (vVar 2) (zab (vVar 5) a0)))
    sNx)
noncomputable def zeS:MS :=
 (sSeq (sAsg (vLst true a0) (gN 2))
  (sSeq (sAsg (vOp (gSub) (vCl gLen (zab (vVar 0) a0)) (cI 1)) (gN 3))
  (sSeq (sFor (zvk (vVar 0)) (zeh 2 (zaG (gN 4) (zaG (gN 5) zeF))) zaN)
  (sRet (vFrz 2)))))
noncomputable def zbI:List A→Mo A:=fnF 6 zeS
noncomputable def zm5:MS :=
 (sSeq (sAsg (vOp gIx (vVar 0) (cI 0)) (gN 2))
  (sSeq (sAsg (vOp (gAdd false) (vOp gIx (vVar 0) (cI 1)) (vOp (gDiv) (vVar 2) (vVar 1))) (gN 3))
  (sRet (vTup (zab (vVar 2) (zab (vVar 3) (zab (vOp (gAdd false) (vOp gIx (vVar 0) (cI 2)) (cI 1)) (zab (vCl (zat 2 zbI) (zab (vOp gIx (vVar 0) (cI 3)) (zab (vVar 3) a0))) a0))))))))
noncomputable def zbT:List A→Mo A:=fnF 4 zm5
end M
namespace V2
open PySem PySem.Spec PyProof.Rows L2
def valA (kvs:List (Key × A)) (k:Key):Option A:=(kvs.find? fun kv=>decide (kv.1=k)).map (·.2)
def putA (kvs:List (Key × A)) (k:Key) (a:A):List (Key × A) :=
 if kvs.any fun kv=>decide (kv.1=k) then kvs.map (fun kv=>if kv.1=k then (kv.1,a) else kv) else kvs ++ [(k,a)]
def keyA:A→Option Key
 | .int i=>some (.inl i)
 | .str x=>some (.inr x)
 | _=>none
section
variable {K:PySem.W.Frag} {G:Hp} {ι:List Addr}
theorem zns {v:V} {a:A} {k:Key} (d:Den K G ι v a) (h:keyA a=some k):v=kV k:=by
 cases a with
 | int i=>simp only [keyA,Option.some.injEq] at h;subst h;simp only [Den] at d;exact d
 | str i=>simp only [keyA,Option.some.injEq] at h;subst h;simp only [Den] at d;exact d
 | _=>simp [keyA] at h
theorem znB {k:Key}:∀ {ws:List (Key × V)} {kvs:List (Key × A)},ws.map (·.1)=kvs.map (·.1)→DenL K G ι (ws.map (·.2)) (kvs.map (·.2))→(∀ a,valA kvs k=some a→∃ v,valV ws k=some v∧Den K G ι v a)∧(valA kvs k=none→valV ws k=none)
 | [],[],_,_=>⟨fun a h=>(by cases h),fun _=>rfl⟩
 | [],_ :: _,h,_=>by simp at h
 | _ :: _,[],h,_=>by simp at h
 | p :: ws,q :: kvs,h,d=>by
  simp only [List.map_cons,List.cons.injEq] at h
  obtain ⟨x,r,e,d1,d2⟩:=d.zdI
  simp only [List.map_cons,List.cons.injEq] at e
  obtain ⟨e1,e2⟩:=e
  obtain ⟨i1,i2⟩:=znB (k:=k) h.2 (e2 ▸ d2)
  by_cases hk:q.1=k
  ·have hp:p.1=k:=h.1.trans hk
   refine ⟨fun a ha=>?_,fun hn=>?_⟩
   ·simp only [valA,List.find?_cons,hk,decide_true,Option.map_some,Option.some.injEq] at ha
    exact ⟨p.2,by simp [valV,hp],by rw [← ha,e1];exact d1⟩
   ·simp [valA,hk] at hn
  ·have hp:¬ p.1=k:=fun z=>hk (h.1.symm.trans z)
   have ev:valV (p :: ws) k=valV ws k:=by simp [valV,hp]
   have ea:valA (q :: kvs) k=valA kvs k:=by simp [valA,hk]
   rw [ev,ea]
   exact ⟨i1,i2⟩
theorem zr0 {k:Key} {ws:List (Key × V)} {kvs:List (Key × A)} (h:ws.map (·.1)=kvs.map (·.1)):(ws.any fun kv=>decide (kv.1=k))=(kvs.any fun kv=>decide (kv.1=k)):=by
 have e1:(ws.any fun kv=>decide (kv.1=k))=(ws.map (·.1)).any fun x=>decide (x=k):=by rw [List.any_map];rfl
 have e2:(kvs.any fun kv=>decide (kv.1=k))=(kvs.map (·.1)).any fun x=>decide (x=k):=by rw [List.any_map];rfl
 rw [e1,e2,h]
theorem zte {k:Key} {v:V} {a:A} {ws:List (Key × V)} {kvs:List (Key × A)} (h:ws.map (·.1)=kvs.map (·.1)):(putK ws k v).map (·.1)=(putA kvs k a).map (·.1):=by
 unfold putK putA
 rw [zr0 h]
 split
 ·rw [List.map_map,List.map_map]
  have e1:ws.map ((·.1) ∘ fun kv:Key × V=>if kv.1=k then (kv.1,v) else kv)=ws.map (·.1):=List.map_congr_left fun x _=>by simp only [Function.comp];split <;> rfl
  have e2:kvs.map ((·.1) ∘ fun kv:Key × A=>if kv.1=k then (kv.1,a) else kv)=kvs.map (·.1):=List.map_congr_left fun x _=>by simp only [Function.comp];split <;> rfl
  rw [e1,e2,h]
 ·rw [List.map_append,List.map_append,h];rfl
theorem zo0 {k:Key} {v:V} {a:A} (dv:Den K G ι v a):∀ {ws:List (Key × V)} {kvs:List (Key × A)},ws.map (·.1)=kvs.map (·.1)→DenL K G ι (ws.map (·.2)) (kvs.map (·.2))→DenL K G ι ((ws.map fun kv=>if kv.1=k then (kv.1,v) else kv).map (·.2)) ((kvs.map fun kv=>if kv.1=k then (kv.1,a) else kv).map (·.2))
 | [],[],_,_ => .nil
 | [],_ :: _,h,_=>by simp at h
 | _ :: _,[],h,_=>by simp at h
 | p :: ws,q :: kvs,h,d=>by
  simp only [List.map_cons,List.cons.injEq] at h
  obtain ⟨x,r,e,d1,d2⟩:=d.zdI
  simp only [List.map_cons,List.cons.injEq] at e
  obtain ⟨e1,e2⟩:=e
  have ih:=zo0 (k:=k) dv h.2 (e2 ▸ d2)
  simp only [List.map_cons]
  refine .cons ?_ ih
  rw [h.1]
  split
  ·exact dv
  ·rw [e1];exact d1
theorem zwp {k:Key} {v:V} {a:A} {ws:List (Key × V)} {kvs:List (Key × A)} (h:ws.map (·.1)=kvs.map (·.1)) (d:DenL K G ι (ws.map (·.2)) (kvs.map (·.2))) (dv:Den K G ι v a):DenL K G ι ((putK ws k v).map (·.2)) ((putA kvs k a).map (·.2)):=by
 unfold putK putA
 rw [zr0 h]
 split
 ·exact zo0 dv h d
 ·rw [List.map_append,List.map_append]
  exact d.append (.cons dv .nil)
def zgT (Ω:Sto):A→Option (Nat × List (Key × A))
 | .cel k=>match Ω[k]? with
  | some (.dct kvs)=>some (k,kvs)
  | _=>none
 | _=>none
theorem zgC {H:Hp} {Ω:Sto} {v:V} {a:A} {k:Nat} {kvs:List (Key × A)} (w:Wd K G ι Ω H) (d:Den K G ι v a) (h:zgT Ω a=some (k,kvs)):∃ p ws,v = .ref p∧ι[k]? = some p∧G p=none∧H p=some (.dK ws)∧ws.map (·.1)=kvs.map (·.1)∧DenL K G ι (ws.map (·.2)) (kvs.map (·.2)):=by
 cases a with
 | cel j =>
  simp only [zgT] at h
  split at h
  ·rename_i es e
   cases h
   simp only [Den] at d
   obtain ⟨p,rfl,hk⟩:=d
   obtain ⟨g,ws,h3,h4,h5⟩:=w.cel k _ p e hk
   exact ⟨p,ws,rfl,hk,g,h3,h4,h5⟩
  ·cases h
 | _=>simp [zgT] at h
theorem zj5 {Ω:Sto} {k:Nat} {kvs:List (Key × A)} (h:Ω[k]? = some (.dct kvs)):zgT Ω (.cel k)=some (k,kvs):=by simp [zgT,h]
end
section
variable {X:Cx} {W:WX} {o i e:Expr} {pos:Pos} {fo fi fe:Ev→Mo A}
@[simp] def zwD:Ev→Mo A:=fun _ Ω=>some (.ok (.cel Ω.length),Ω ++ [.dct []])
theorem zqS:VE X W (.Dict [] [] pos) zwD:=by
 refine ⟨_,ztB,fun G ι Ω H σ ρ Q w r h=>?_⟩
 intro p hp
 refine h _ _ G (ι ++ [p]) (Ext.cell p) (w.cell hp ⟨w.zg9 hp,[],zay,rfl, .nil⟩) ?_
 simp only [Den]
 exact ⟨p,rfl,by rw [← w.len];simp⟩
@[simp] def zvQ (o i:A):Mo A:=fun Ω=>match zgT Ω o,keyA i with
 | some (_,kvs),some k=>match valA kvs k with
  | some a=>some (.ok a,Ω)
  | none=>none
 | _,_=>none
theorem zww (hu:X.A.units + 1 < cLine) (ho:VE X W o fo) (hi:VE X W i fi) (hs:NoSl i):VE X W (.Subscript o i pos) (vOp zvQ fo fi):=by
 obtain ⟨t,p1,s1⟩:=ho
 obtain ⟨u,p2,s2⟩:=hi
 refine ⟨_,zvI hu p1 p2 hs,fun G ι Ω H σ ρ Q w r h=>?_⟩
 refine s1 G ι Ω H σ ρ _ w r (Post.mb h fun x Ω1 v H1 G1 ι1 x1 w1 d1 h1=>?_)
 refine s2 G1 ι1 Ω1 H1 σ ρ _ w1 (r.ext x1) (Post.mb h1 fun y Ω2 u H2 G2 ι2 x2 w2 d2 h2=>?_)
 unfold zvQ at h2
 split at h2
 ·rename_i k0 kvs k e1 e2
  split at h2
  ·rename_i a ea
   obtain ⟨p,ws,rfl,hk,g,q1,q2,q3⟩:=zgC w2 (d1.ext x2) e1
   obtain ⟨v',v1,v2⟩:=(znB q2 q3).1 a ea
   rw [zns d2 e2]
   exact ⟨p,v',rfl,by rw [← v1];exact DGet.k q1,h2 v' H2 G2 ι2 (Ext.refl _ _) w2 v2⟩
  ·exact False.elim h2
 ·exact False.elim h2
@[simp] def zvf (o i z:A):Mo A:=fun Ω=>match zgT Ω o,keyA i with
 | some (_,kvs),some k=>some (.ok ((valA kvs k).getD z),Ω)
 | _,_=>none
def isD (Ω:Sto) (a:A):Prop:=∃ k kvs,zgT Ω a=some (k,kvs)
open Classical in
@[simp] noncomputable def zve (fo fi fe:Ev→Mo A):Ev→Mo A:=fun ρ=>mb (fo ρ) fun o Ω=>if isD Ω o then mb (fi ρ) (fun i=>mb (fe ρ) fun z=>zvf o i z) Ω else none
theorem zt9 {apos:Pos} (hu:X.A.units + 1 < cLine) (ho:VE X W o fo) (hi:VE X W i fi) (he:VE X W e fe) (m:M2 X o "get" apos i e pos):VE X W (.Call (.Attribute o "get" apos) [i,e] [] pos) (zve fo fi fe):=by
 obtain ⟨t,p1,s1⟩:=ho
 obtain ⟨u,p2,s2⟩:=hi
 obtain ⟨u',p3,s3⟩:=he
 refine ⟨_,ztQ hu p1 p2 p3 m,fun G ι Ω H σ ρ Q w r h=>?_⟩
 refine s1 G ι Ω H σ ρ _ w r (Post.mb h fun x Ω1 v H1 G1 ι1 x1 w1 d1 h1=>?_)
 split at h1
 ·rename_i hd
  obtain ⟨k0,kvs0,e0⟩:=hd
  obtain ⟨p,ws,rfl,hk,g,q1,q2,q3⟩:=zgC w1 d1 e0
  refine ⟨p,rfl, .inl ⟨ws, .inl q1⟩,?_⟩
  refine s2 G1 ι1 Ω1 H1 σ ρ _ w1 (r.ext x1) (Post.mb h1 fun y Ω2 u H2 G2 ι2 x2 w2 d2 h2=>?_)
  refine s3 G2 ι2 Ω2 H2 σ ρ _ w2 ((r.ext x1).ext x2) (Post.mb h2 fun z Ω3 u3 H3 G3 ι3 x3 w3 d3 h3=>?_)
  unfold zvf at h3
  split at h3
  ·rename_i k1 kvs k e1 e2
   obtain ⟨p',ws',hp',hk',g',r1,r2,r3⟩:=zgC w3 (d1.ext (x2.trans x3)) e1
   cases hp'
   rw [zns (d2.ext x3) e2]
   refine ⟨valV ws' k,DGet.k r1,?_⟩
   obtain ⟨i1,i2⟩:=znB (k:=k) r2 r3
   cases ev:valA kvs k with
   | none =>
    rw [ev] at h3
    rw [i2 ev]
    exact h3 _ H3 G3 ι3 (Ext.refl _ _) w3 d3
   | some a =>
    rw [ev] at h3
    obtain ⟨v',v1,v2⟩:=i1 a ev
    rw [v1]
    exact h3 _ H3 G3 ι3 (Ext.refl _ _) w3 v2
  ·exact False.elim h3
 ·exact False.elim h1
@[simp] def setD (o i v:A) (Ω:Sto):Option Sto:=match zgT Ω o,keyA i with
 | some (k,kvs),some key=>if kvs.length < sizeLine then some (Ω.set k (.dct (putA kvs key v))) else none
 | _,_=>none
@[simp] def zse (fe fo fi:Ev→Mo A):MS:=fun ρ=>sM (fe ρ) ρ fun a=>sM (fo ρ) ρ fun o=>sM (fi ρ) ρ fun i Ω=>match setD o i a Ω with
 | some Ω'=>some (.nx,ρ,Ω')
 | none=>none
theorem zsq {pos':Pos} (hu:X.A.units + 1 < cLine) (ho:VE X W o fo) (hi:VE X W i fi) (he:VE X W e fe) (hs:swapsWith e (some (.Subscript o i pos')) pos.line X.env=pure false:=by rfl):VS X W (.Assign [.Subscript o i pos'] e pos) (zse fe fo fi):=by
 obtain ⟨t,p1,s1⟩:=ho
 obtain ⟨u,p2,s2⟩:=hi
 obtain ⟨u',p3,s3⟩:=he
 refine ⟨_,zvt hu p1 p2 p3 hs,fun G ι Ω H σ ρ D w r h=>?_⟩
 refine s3 G ι Ω H σ ρ _ w r (zb6.sM h r fun z Ω1 v H1 G1 ι1 x1 w1 d1 h1=>?_)
 refine s1 G1 ι1 Ω1 H1 σ ρ _ w1 (r.ext x1) (zb6.sM h1 (r.ext x1) fun x Ω2 vo H2 G2 ι2 x2 w2 d2 h2=>?_)
 refine s2 G2 ι2 Ω2 H2 σ ρ _ w2 ((r.ext x1).ext x2) (zb6.sM h2 ((r.ext x1).ext x2) fun y Ω3 vi H3 G3 ι3 x3 w3 d3 h3=>?_)
 unfold setD at h3
 split at h3
 ·rename_i Ω' e'
  split at e'
  ·rename_i k kvs key e1 e2
   split at e'
   ·rename_i hl
    cases e'
    obtain ⟨p,ws,rfl,hk,g,q1,q2,q3⟩:=zgC w3 (d2.ext x3) e1
    rw [zns d3 e2]
    have hwl:ws.length=kvs.length:=by have:=congrArg List.length q2;simpa using this
    refine ⟨p,_,rfl,DPut.k q1 (by rw [hwl];exact hl),?_⟩
    exact zmB (w3.put (c := .dct (putA kvs key z)) hk g ⟨g,_,zay,zte q2,zwp q2 q3 (d1.ext (x2.trans x3))⟩) (((r.ext x1).ext x2).ext x3) h3
   ·cases e'
  ·cases e'
 ·exact False.elim h3
def intKeys:List (Key × A)→Option (List Int)
 | []=>some []
 | (.inl i,_) :: r=>(intKeys r).map (i :: ·)
 | _=>none
theorem zkN:∀ {kvs:List (Key × A)} {ns:List Int},intKeys kvs=some ns→kvs.map (·.1)=ns.map Sum.inl
 | [],ns,h=>by simp only [intKeys,Option.some.injEq] at h;subst h;rfl
 | (.inl i,_) :: r,ns,h=>by
  simp only [intKeys,Option.map_eq_some_iff] at h
  obtain ⟨ms,h1,rfl⟩:=h
  simp [zkN h1]
 | (.inr i,_) :: r,ns,h=>by simp [intKeys] at h
@[simp] def zsm (c:Bool) (as:List A):Mo A:=fun Ω=>match as with
 | [a]=>(match zgT Ω a with
  | some (_,kvs)=>(match intKeys kvs with
   | some ns=>if ns.length < 64 then mkL c ((sortI ns).map A.int) Ω else none
   | none=>none)
  | none=>none)
 | _=>none
theorem zr7 (hc:X.calm=true) (c:Bool):zhJ X W (.builtin "sorted") (zsm c):=by
 refine ⟨_,zmD hc,?_⟩
 intro G ι Ω H σ xs as Q w d h
 unfold zsm at h
 split at h
 ·rename_i a
  split at h
  ·rename_i k kvs e
   split at h
   ·rename_i ns en
    split at h
    ·rename_i h64
     obtain ⟨x,rfl,d1⟩:=den1 d
     obtain ⟨p,ws,rfl,hk,g,q1,q2,q3⟩:=zgC w d1 e
     refine ⟨p,ws,ns,rfl,q1,by rw [q2];exact zkN en,h64,fun ms l hp hs hl=>?_⟩
     rw [zm0 hp hs]
     exact zov w hl (zjk _) h
    ·exact False.elim h
   ·exact False.elim h
  ·exact False.elim h
 ·exact False.elim h
end
end V2
namespace V2
open PySem PySem.Spec PyProof.Rows L2
section
variable {X:Cx} {W:WX} {x:Str} {e:Expr} {es:List Expr} {np cpos pos:Pos} {fs:Ev→Mo (List A)}
@[simp] def zgY (x:Str) (f:Ev→Mo (List A)):MS:=fun ρ=>sM (f ρ) ρ fun as Ω=>if as.length ≤ sizeLine then some (.exc ⟨x,[]⟩,ρ,Ω) else none
theorem zt6 {C:Addr} (T:zgG X W) (hc:X.calm=true) (O:OwnE X.K C) (hg:Gl X x) (hm:X.mg x=some (.ref C)) (hK:PySem.W.nsIn X.K mainGlobals x=some (some (.ref C))) (ha:VA X W (e :: es) fs)
  (hdb:(x == ("__debug__" : Str))=false:=by decide) (he:starEach (e :: es) X.env=(false,eval e X.env) :: starEach es X.env:=by rfl) (hpl:(backTo cpos (starEach (e :: es) X.env)).any (·.1)=false:=by rfl) :
  VS X W (.Raise (some (.Call (.Name x np) (e :: es) [] cpos)) none pos) (zgY x fs):=by
 obtain ⟨t,p,s⟩:=ha
 refine ⟨_,zum T hc O hg hm p hdb he hpl,fun G ι Ω H σ ρ D w r h=>?_⟩
 refine s G ι Ω H σ ρ _ w r (zb6.sM h r fun as Ω1 vs H1 G1 ι1 x1 w1 d1 h1=>?_)
 split at h1
 ·rename_i hl
  exact ⟨by rw [d1.length];exact hl,h1 σ H1 G1 ι1 (Ext.refl _ _) w1 (r.ext x1) _ _ ⟨⟨C,hK,rfl⟩, .inl ⟨rfl,rfl⟩⟩⟩
 ·exact False.elim h1
end
def VS0 (X:Cx) (W:WX) (st:Stmt) (f:MS):Prop:=∃ t,PS0 X st t∧SimS X.K W t f
def VSs0 (X:Cx) (W:WX) (st:List Stmt) (f:MS):Prop:=∃ t,PSs0 X st t∧SimS X.K W t f
section
variable {X:Cx} {W:WX} {st:Stmt} {rest:List Stmt} {f g:MS}
theorem VS.v0 (h:VS X W st f):VS0 X W st f:=let ⟨t,p,s⟩:=h; ⟨t,p.ps0,s⟩
theorem VSs.v0 (h:VSs X W rest f):VSs0 X W rest f:=let ⟨t,p,s⟩:=h; ⟨t,p.ps0,s⟩
theorem zmm (h1:VS0 X W st f) (h2:VSs0 X W rest g):VSs0 X W (st :: rest) (sSeq f g):=by
 obtain ⟨t,p1,s1⟩:=h1
 obtain ⟨u,p2,s2⟩:=h2
 exact ⟨_,zsK p1 p2,zrM s1 s2⟩
end
def zqa (K:PySem.W.Frag) (W:WX) (f:MS):TS:=fun D σ H=>∃ G ι Ω ρ,Wd K G ι Ω H∧EnvR K G ι σ ρ∧zb6 K W G ι D (f ρ Ω)
theorem VSs.can {X:Cx} {W:WX} {st:List Stmt} {f:MS} (h:VSs X W st f):PSs X st (zqa X.K W f):=by
 obtain ⟨t,p,s⟩:=h
 exact fun pins sh σ H D I ⟨G,ι,Ω,ρ,w,r,q⟩=>p pins sh σ H D I (s G ι Ω H σ ρ D w r q)
theorem VSs0.can {X:Cx} {W:WX} {st:List Stmt} {f:MS} (h:VSs0 X W st f):PSs0 X st (zqa X.K W f):=by
 obtain ⟨t,p,s⟩:=h
 exact fun sh σ H D I ⟨G,ι,Ω,ρ,w,r,q⟩=>p sh σ H D I (s G ι Ω H σ ρ D w r q)
def zs1 (i:Nat):OS→OS
 | some (.exc _,_,_)=>none
 | some (o,ρ,Ω)=>some (o,ρ.set i none,Ω)
 | none=>none
open Classical in
noncomputable def sTry (i:Nat) (sub:Str→Bool) (fb:MS) (fh:Addr→Exc→MS):MS:=fun ρ Ω=>match fb ρ Ω with
 | some (.exc e,ρ1,Ω1)=>if sub e.cls=true then (if hr:∃ r,∀ p,zs1 i (fh p e (ρ1.set i (some (.adr p))) Ω1)=some r then some (Classical.choose hr) else none) else none
 | r=>r
theorem zxT {i:Nat} {sub:Str→Bool} {fb:MS} {fh:Addr→Exc→MS} {ρ ρ1:Ev} {Ω Ω1:Sto} {e:Exc} {r:Out × Ev × Sto} (h:fb ρ Ω=some (.exc e,ρ1,Ω1)) (hs:sub e.cls=true) (hr:∀ p,zs1 i (fh p e (ρ1.set i (some (.adr p))) Ω1)=some r):sTry i sub fb fh ρ Ω=some r:=by
 have hx:∃ r,∀ p,zs1 i (fh p e (ρ1.set i (some (.adr p))) Ω1)=some r:=⟨r,hr⟩
 have e1:=Classical.choose_spec hx 0
 rw [hr 0] at e1
 simp only [sTry,h,hs,if_true]
 rw [dif_pos hx,← e1]
theorem zvN {K:PySem.W.Frag} {W:WX} {C:Addr} {i:Nat} {sub:Str→Bool} {fb:MS} {fh:Addr→Exc→MS}
  (hsub:∀ n E,sub n=true→PySem.W.nsIn K mainGlobals n=some (some (.ref E))→PySem.W.subIn K (.ref E) (.ref C)=some true) :
  SimS K W (tTry (fun W=>zqa K W fb) (tH K C i (fun x cls dx D σ H=>∃ e:Exc,(∃ E,PySem.W.nsIn K mainGlobals e.cls=some (some (.ref E))∧cls = .ref E)∧zqa K noW (fh x e) D σ H) tNoH)) (sTry i sub fb fh):=by
 intro G ι Ω H σ ρ D w r h
 refine ⟨G,ι,Ω,ρ,w,r,?_⟩
 unfold sTry at h
 revert h
 generalize fb ρ Ω=q
 intro h
 match q,h with
 | none,h=>exact h
 | some (.nx,ρ1,Ω1),h=>exact h
 | some (.bk,ρ1,Ω1),h=>exact h
 | some (.ct,ρ1,Ω1),h=>exact h
 | some (.ret a,ρ1,Ω1),h=>exact h
 | some (.exc e,ρ1,Ω1),h =>
  simp only at h
  split at h
  ·rename_i hs
   split at h
   ·rename_i hr
    intro σ' H' G' ι' x' w' r' cls dx hx x hxn
    obtain ⟨⟨E,hE,rfl⟩,_⟩:=hx
    refine ⟨E,true,rfl,hsub _ E hs hE,?_⟩
    rw [if_pos rfl]
    refine ⟨e,⟨E,hE,rfl⟩,G',ι',Ω1,ρ1.set i (some (.adr x)),w',r'.set i (by simp only [Den]),?_⟩
    have hq:=Classical.choose_spec hr x
    revert hq h
    generalize Classical.choose hr=rr
    generalize fh x e (ρ1.set i (some (.adr x))) Ω1=q2
    intro h hq
    match q2,hq with
    | some (.nx,ρ2,Ω2),hq=>cases hq;exact fun σ2 H2 G2 ι2 x2 w2 r2=>h (σ2.set i none) H2 G2 ι2 (x'.trans x2) w2 (r2.unset i none)
    | some (.bk,ρ2,Ω2),hq=>cases hq;exact fun σ2 H2 G2 ι2 x2 w2 r2=>h (σ2.set i none) H2 G2 ι2 (x'.trans x2) w2 (r2.unset i none)
    | some (.ct,ρ2,Ω2),hq=>cases hq;exact fun σ2 H2 G2 ι2 x2 w2 r2=>h (σ2.set i none) H2 G2 ι2 (x'.trans x2) w2 (r2.unset i none)
    | some (.ret a,ρ2,Ω2),hq=>cases hq;exact fun σ2 H2 G2 ι2 x2 w2 r2=>h (σ2.set i none) H2 G2 ι2 (x'.trans x2) w2 (r2.unset i none)
   ·exact False.elim h
  ·exact False.elim h
theorem zx5 {X:Cx} {W:WX} {C:Addr} {i:Nat} {n y:Str} {np pos hpos:Pos} {body:List Stmt} {b₀:Stmt} {suite:List Stmt} {sub:Str→Bool} {fb:MS} {fh:Addr→Exc→MS} (t:Top1 X) (hx:X.ex=[]) (c:XC X.K C) (hg:Gl X y) (hm:X.mg y=some (.ref C)) (hN:X.N.Nodup) (hi:X.N[i]? = some n) (hl:X.env.scope.names.lookup n=some .local)
  (hsub:∀ n E,sub n=true→PySem.W.nsIn X.K mainGlobals n=some (some (.ref E))→PySem.W.subIn X.K (.ref E) (.ref C)=some true)
  (hb:∀ W,VSs0 (X.wish (XE X W)) W body fb) (hh:∀ (p:Addr) (oe:Obj) (e:Exc),(∃ E,PySem.W.nsIn X.K mainGlobals e.cls=some (some (.ref E))∧oe.cls = .ref E)→VSs (X.zc8 p oe) noW (b₀ :: suite) (fh p e))
  (hdb:(y == ("__debug__" : Str))=false:=by decide):VS0 X W (.Try body [.ExceptHandler (some (.Name y np)) (some n) (b₀ :: suite) hpos] [] [] pos) (sTry i sub fb fh):=by
 refine ⟨_,zyf t hx (tb:=fun W=>zqa X.K W fb) (fun W=>(hb W).can) (zzZ t c hg hm hN hi hl (ts:=fun x cls dx D σ H=>∃ e:Exc,(∃ E,PySem.W.nsIn X.K mainGlobals e.cls=some (some (.ref E))∧cls = .ref E)∧zqa X.K noW (fh x e) D σ H) (fun x oe=>?_) zyE hdb),zvN hsub⟩
 intro pins sh σ H D I ⟨e,he,q⟩
 exact (hh x oe e he).can pins sh σ H D I q
section
variable {P:Program} {w:World} {K:PySem.W.Frag} {mg:Str→Option Value} {base:Heap}
theorem DefN.of0 {x:Str} {st:Stmt} {N ps:List Str} {k:Nat} {b:MS} (h:HasFn K mg x st) (S:zaq N ps (zac st))
  (bind:∀ (kV doc pm:Value) (an:Option Addr) (cdv ct:Value) (us:List Value),us.length=ps.length→bindArgs (PySem.W.fnOf x x (zar st) (zaj st) (zac st) .none kV doc pm an cdv ct) ⟨us,[]⟩ = pure (ps.zip us))
  (hbody:∀ (f:Addr) (cdv:Value) (A:Around) (outer:List Env) (s:Shared) (H:Hp) (E:XK),Room k (A.deeper (envOfC x (zac st) s.heap.objs.size f cdv)) →
   VSs0 (cxOf CX0 P w K mg base N x (zac st) f cdv A outer s H E).nox noW (zaj st) b):DefN P w K mg base x (k + 1) ps (fnF N.length b):=by
 refine Def.of0 h S bind (fun vs H Q E h=>h.1) fun f cdv A outer s H vs Q E hr hsp=>?_
 obtain ⟨t,p,q⟩:=hbody f cdv A outer s H E hr
 exact ⟨t,p,zj9 (E:=fun _ _ _=>False) q hsp⟩
end
end V2
namespace V2
open PySem PySem.Spec PyProof.Rows L2
structure XTab (K:PySem.W.Frag) (rs ns:List Str):Prop where
 xc:∀ n ∈ ns,∀ D,PySem.W.nsIn K mainGlobals n=some (some (.ref D))→XC K D
 sub:∀ n ∈ rs,∀ m ∈ ns,∀ D C,PySem.W.nsIn K mainGlobals n=some (some (.ref D))→PySem.W.nsIn K mainGlobals m=some (some (.ref C))→PySem.W.subIn K (.ref D) (.ref C)=some (n == m || m == ("RankError" : Str))
 ve:∀ n ∈ rs,∀ D,PySem.W.nsIn K mainGlobals n=some (some (.ref D))→PySem.W.subIn K (.ref D) (.type "ValueError")=some true
 rn:∀ n ∈ rs,n ∈ ns
def xtab (rs ns:List Str) (n m:Str):Option Bool:=if n ∈ rs∧m ∈ ns then some (n == m || m == ("RankError" : Str)) else none
def xtt (rs:List Str) (n:Str) (T:String):Option Bool:=if n ∈ rs∧T = "ValueError" then some true else none
theorem XTab.own {K:PySem.W.Frag} {rs ns:List Str} (T:XTab K rs ns) (n m:Str) (b:Bool) (D C:Addr) (h:xtab rs ns n m=some b) (hn:PySem.W.nsIn K mainGlobals n=some (some (.ref D))) (hm:PySem.W.nsIn K mainGlobals m=some (some (.ref C))):PySem.W.kitOne K (.ref D) (.ref C)=some b:=by
 unfold xtab at h
 split at h
 ·rename_i q
  cases h
  exact zvi (T.xc _ (T.rn _ q.1) _ hn) (T.xc _ q.2 _ hm) (T.sub _ q.1 _ q.2 _ _ hn hm)
 ·cases h
theorem XTab.bt {K:PySem.W.Frag} {rs ns:List Str} (T:XTab K rs ns) (n:Str) (Y:String) (b:Bool) (D:Addr) (h:xtt rs n Y=some b) (hn:PySem.W.nsIn K mainGlobals n=some (some (.ref D))):PySem.W.kitOne K (.ref D) (.type Y)=some b:=by
 unfold xtt at h
 split at h
 ·rename_i q
  cases h
  obtain ⟨q,rfl⟩:=q
  exact zui (T.ve _ q _ hn) zpT
 ·cases h
def anyN (tb:Str→Option Bool):List Str→Option Bool
 | []=>some false
 | m :: r=>match tb m with
  | some true=>some true
  | some false=>anyN tb r
  | none=>none
def glOf:A→Option Str
 | .gl m=>some m
 | _=>none
def zrB:List A→Option (List Str)
 | []=>some []
 | a :: r=>(glOf a).bind fun m=>(zrB r).map fun ms=>m :: ms
def isA (tb:Str→Option Bool) (tt:String→Option Bool):A→Option Bool
 | .gl m=>tb m
 | .ty T=>tt T
 | .tup as=>(zrB as).bind (anyN tb)
 | _=>none
@[simp] def gIsX (p:Addr) (tb:Str→Option Bool) (tt:String→Option Bool) (as:List A):Mo A:=fun Ω=>match as with
 | [.adr q,a]=>if q=p∧tt "ValueError" = some true then (match isA tb tt a with
  | some b=>some (.ok (.bl b),Ω)
  | none=>none) else none
 | _=>none
section
variable {K:PySem.W.Frag} {rs ns:List Str} {G:Hp} {ι:List Addr}
theorem ztV:∀ {as:List A} {ms:List Str} {xs:List V},zrB as=some ms→DenL K G ι xs as→∃ cs:List Addr,xs=cs.map V.ref∧ms.map (fun m=>PySem.W.nsIn K mainGlobals m)=cs.map fun C=>some (some (.ref C)):=by
 intro as
 induction as with
 | nil =>
  intro ms xs h d
  cases h
  simp only [DenL] at d;subst d
  exact ⟨[],rfl,rfl⟩
 | cons a r ih =>
  intro ms xs h d
  simp only [DenL] at d
  obtain ⟨x,xr,rfl,d1,d2⟩:=d
  unfold zrB at h
  rw [Option.bind_eq_some_iff] at h
  obtain ⟨m,e1,h⟩:=h
  rw [Option.map_eq_some_iff] at h
  obtain ⟨ms',e2,rfl⟩:=h
  obtain ⟨cs,rfl,q⟩:=ih e2 d2
  cases a with
  | gl y =>
   simp only [glOf,Option.some.injEq] at e1;subst e1
   simp only [Den] at d1
   obtain ⟨C,hC,rfl⟩:=d1
   exact ⟨C :: cs,rfl,by rw [List.map_cons,List.map_cons,hC,q]⟩
  | _=>cases e1
theorem zwM (hT:XTab K rs ns) {n:Str} {D:Addr} (hn:PySem.W.nsIn K mainGlobals n=some (some (.ref D))):∀ {ms:List Str} {cs:List Addr} {b:Bool},ms.map (fun m=>PySem.W.nsIn K mainGlobals m)=cs.map (fun C=>some (some (.ref C)))→anyN (xtab rs ns n) ms=some b→PySem.W.kitAny K (.ref D) (cs.map Value.ref)=some b:=by
 intro ms
 induction ms with
 | nil =>
  intro cs b e h
  cases cs with
  | nil=>exact h
  | cons=>cases e
 | cons m r ih =>
  intro cs b e h
  cases cs with
  | nil=>cases e
  | cons C cs =>
   simp only [List.map_cons,List.cons.injEq] at e
   unfold anyN at h
   split at h
   ·rename_i q
    cases h
    simp only [List.map_cons,PySem.W.kitAny,hT.own _ _ _ _ _ q hn e.1]
   ·rename_i q
    simp only [List.map_cons,PySem.W.kitAny,hT.own _ _ _ _ _ q hn e.1]
    exact ih e.2 h
   ·cases h
end
theorem zvn {X:Cx} {W:WX} {rs ns:List Str} {p:Addr} {oe:Obj} {n:Str} (hp:(p,oe) ∈ X.pn) (hT:XTab X.K rs ns) (he:∃ E,PySem.W.nsIn X.K mainGlobals n=some (some (.ref E))∧oe.cls = .ref E):zhJ X W (.builtin "isinstance") (gIsX p (xtab rs ns n) (xtt rs n)):=by
 refine ⟨_,ztJ hp,?_⟩
 intro G ι Ω H σ xs as Q w d h
 obtain ⟨E,hE,hc⟩:=he
 unfold gIsX at h
 split at h
 ·rename_i q a
  split at h
  ·rename_i hq
   obtain ⟨rfl,hv⟩:=hq
   split at h
   ·rename_i b e
    obtain ⟨x,y,rfl,d1,d2⟩:=den2 d
    simp only [Den] at d1;subst d1
    have hr:n ∈ rs:=by
     unfold xtt at hv
     split at hv
     ·rename_i z;exact z.1
     ·cases hv
    refine ⟨E,hc,hT.xc _ (hT.rn _ hr) _ hE,?_⟩
    have fin:Q (.bl b) H:=h _ H G ι (Ext.refl _ _) w (by simp only [Den])
    rw [hc]
    cases a with
    | gl m =>
     simp only [Den] at d2
     obtain ⟨C,hC,rfl⟩:=d2
     exact .inl ⟨C,b,rfl,hT.own _ _ _ _ _ e hE hC,fin⟩
    | ty T =>
     simp only [Den] at d2;subst d2
     exact .inr (.inl ⟨T,b,rfl,hT.bt _ _ _ _ e hE,fin⟩)
    | tup as =>
     simp only [Den] at d2
     obtain ⟨a,ys,rfl,hG,dl⟩:=d2
     unfold isA at e
     rw [Option.bind_eq_some_iff] at e
     obtain ⟨ms,e1,e2⟩:=e
     obtain ⟨cs,rfl,q⟩:=ztV e1 dl
     exact .inr (.inr ⟨a,cs,b,rfl,w.sub _ _ hG,zwM hT hE q e2,fin⟩)
    | _=>cases e
   ·exact False.elim h
  ·exact False.elim h
 ·exact False.elim h
end V2
namespace V2
open PySem PySem.Spec PyProof.Rows L2
end V2
namespace V2
open PySem PySem.Spec PyProof.Rows L2
def ClsN (K:PySem.W.Frag) (mg:Str→Option Value) (x:Str):Prop:=∃ C,XC K C∧mg x=some (.ref C)∧PySem.W.nsIn K mainGlobals x=some (some (.ref C))
def OwnC (K:PySem.W.Frag) (mg:Str→Option Value) (x:Str):Prop:=∃ C,OwnE K C∧mg x=some (.ref C)∧PySem.W.nsIn K mainGlobals x=some (some (.ref C))
section
variable {X:Cx} {W:WX} {x y:Str} {e:Expr} {es:List Expr} {np cpos pos hpos:Pos} {fs:Ev→Mo (List A)}
@[simp] def cG (x:Str):Ev→Mo A:=fun _=>ret (.gl x)
theorem ziD (h:ClsN X.K X.mg x) (hg:Gl X x) (hd:(x == ("__debug__" : Str))=false:=by decide):VE X W (.Name x pos) (cG x):=by
 obtain ⟨C,_,h1,h2⟩:=h
 exact zwU hg h1 h2 hd
theorem zhG (T:zgG X W) (hc:X.calm=true) (O:OwnC X.K X.mg x) (hg:Gl X x) (ha:VA X W (e :: es) fs)
  (hdb:(x == ("__debug__" : Str))=false:=by decide) (he:starEach (e :: es) X.env=(false,eval e X.env) :: starEach es X.env:=by rfl) (hpl:(backTo cpos (starEach (e :: es) X.env)).any (·.1)=false:=by rfl) :
  VS X W (.Raise (some (.Call (.Name x np) (e :: es) [] cpos)) none pos) (zgY x fs):=by
 obtain ⟨C,h0,h1,h2⟩:=O
 exact zt6 T hc h0 hg h1 h2 ha hdb he hpl
theorem zwx {i:Nat} {n:Str} {body:List Stmt} {b₀:Stmt} {suite:List Stmt} {rs ns:List Str} {fb:MS} {fh:Addr→Exc→MS} (t:Top1 X) (hx:X.ex=[]) (c:ClsN X.K X.mg y) (hg:Gl X y) (hT:XTab X.K rs ns) (hN:X.N.Nodup) (hi:X.N[i]? = some n) (hl:X.env.scope.names.lookup n=some .local)
  (hb:∀ W,VSs0 (X.wish (XE X W)) W body fb) (hh:∀ (p:Addr) (oe:Obj) (e:Exc),(∃ E,PySem.W.nsIn X.K mainGlobals e.cls=some (some (.ref E))∧oe.cls = .ref E)→VSs (X.zc8 p oe) noW (b₀ :: suite) (fh p e))
  (hdb:(y == ("__debug__" : Str))=false:=by decide):VS0 X W (.Try body [.ExceptHandler (some (.Name y np)) (some n) (b₀ :: suite) hpos] [] [] pos) (sTry i (fun z=>xtab rs ns z y == some true) fb fh):=by
 obtain ⟨C,h0,h1,h2⟩:=c
 refine zx5 t hx h0 hg h1 hN hi hl (fun z E q hz=>?_) hb hh hdb
 have q:xtab rs ns z y=some true:=by simpa using q
 unfold xtab at q
 split at q
 ·rename_i hm
  rw [← q]
  exact hT.sub _ hm.1 _ hm.2 _ _ hz h2
 ·cases q
end
theorem zme {α:Type} {P:α→Prop}:∀ n ∈ ([] : List α),P n:=by simp
theorem zaK {α:Type} {P:α→Prop} {a:α} {l:List α} (h:P a) (t:∀ n ∈ l,P n):∀ n ∈ a :: l,P n:=fun n hn=>by
 rcases List.mem_cons.mp hn with z | z
 ·exact z ▸ h
 ·exact t n z
theorem zgm {K:PySem.W.Frag} {n:Str} {C:Addr} {P:Addr→Prop} (h:PySem.W.nsIn K mainGlobals n=some (some (.ref C))) (p:P C):∀ D,PySem.W.nsIn K mainGlobals n=some (some (.ref D))→P D:=fun D hD=>by
 rw [h] at hD;cases hD;exact p
theorem zda {K:PySem.W.Frag} {n m:Str} {C C':Addr} {P:Addr→Addr→Prop} (h:PySem.W.nsIn K mainGlobals n=some (some (.ref C))) (h':PySem.W.nsIn K mainGlobals m=some (some (.ref C'))) (p:P C C'):∀ D D',PySem.W.nsIn K mainGlobals n=some (some (.ref D))→PySem.W.nsIn K mainGlobals m=some (some (.ref D'))→P D D':=fun D D' hD hD'=>by
 rw [h] at hD;rw [h'] at hD';cases hD;cases hD';exact p
theorem DefV.ofN {P:Program} {w:World} {K:PySem.W.Frag} {mg:Str→Option Value} {base:Heap} {x:Str} {k:Nat} {ps:List Str} {F:List A→Mo A} (D:DefN P w K mg base x k ps F):DefV P w K mg base x k ps (noX F):=by
 obtain ⟨f,fd,h1,h2,h3,h4⟩:=D.ex
 refine ⟨f,fd,⟨fun vs H Q E h=>h.1,fun A outer s H args us vs Q E hr e0 hb r hsp=>?_⟩,h2,h3,h4⟩
 refine codeAny_mono (h1.run A outer s H args us vs Q (fun _ _ _=>False) hr e0 hb r ?_) fun r s' hq=>?_
 ·obtain ⟨hl,G,ι,Ω,ds,w,d,p⟩:=hsp
  refine ⟨hl,G,ι,Ω,ds,w,d,?_⟩
  revert p
  unfold noX
  generalize F ds Ω=q2
  intro p
  match q2,p with
  | some (.ok a,Ω2),p=>exact p
 ·cases r with
  | error ev=>exact False.elim hq
  | ok v=>cases v <;> exact hq
end V2
namespace L2
open PySem PySem.Spec PyProof.Rows
theorem Room.zoT {k:Nat} {A:Around} (r:Room k A):A.units + 1 < cLine:=by have:=r.units;omega
end L2
namespace V2
theorem zjb:PySem.bootBuiltins "ValueError" = some (.type "ValueError"):=by decide +kernel
end V2
namespace L2
open PySem PySem.Spec PyProof.Rows
theorem Top1.nox {X:Cx} (t:Top1 X):Top1 X.nox:=⟨t.1,t.2,t.3⟩
theorem zsF {CX:CXT} {P:Program} {w:World} {K:PySem.W.Frag} {mg:Str→Option Value} {base:Heap} {N:List Str} {qual:Str} {scope:Scope} {f:Addr} {cd:Value} {A:Around} {outer:List Env} {s:Shared} {H:Hp} {E:XK}:Top1 (cxOf CX P w K mg base N qual scope f cd A outer s H E).nox:=Top1.nox ziY
theorem zsy {CX:CXT} {P:Program} {w:World} {K:PySem.W.Frag} {mg:Str→Option Value} {base:Heap} {N:List Str} {qual:Str} {scope:Scope} {f:Addr} {cd:Value} {A:Around} {outer:List Env} {s:Shared} {H:Hp} {E:XK} {W:WX} :
  zgG ((cxOf CX P w K mg base N qual scope f cd A outer s H E).nox.wish (XE (cxOf CX P w K mg base N qual scope f cd A outer s H E).nox W)) W:=zgG.of zsF rfl W
end L2
namespace M
open PySem V2
noncomputable def zfl:MS :=
 (zse (vOp (gAdd false) (zve (vVar 1) (vVar 2) (cI 0)) (vVar 3)) (vVar 1) (vVar 2))
noncomputable def zjH:Ev→Mo A :=
 (vLC false 1 [1] (vSeq (vCl (zsm false) (zab (vVar 1) a0))) (gN 0) yesM (vTup (zab (vVar 0) (zab (vOp zvQ (vVar 1) (vVar 0)) a0))))
noncomputable def ziS:MS :=
 (sSeq (sAsg zwD (gN 1))
  (sSeq (sFor (vSeq (vVar 0)) (zeh 2 (zaG (gN 2) (zaG (gN 3) zeF))) zfl)
  (sRet zjH)))
noncomputable def zeO:List A→Mo A:=fnF 4 ziS
noncomputable def zbJ:MS :=
 (sSeq (sAsg (vOp (gAdd false) (vVar 2) (vVar 4)) (gN 2))
   (sIf (zaP (vOp gLe (vVar 1) (vVar 2)))
    (sRet (vVar 3))
    sNx))
noncomputable def zdu:MS :=
 (sSeq (sIf (zaP (vOp gLt (vVar 1) (cI 1)))
   (zgY "NoPlace" (zab (cS "places begin with 1") a0))
   sNx)
  (sSeq (sAsg (cI 0) (gN 2))
  (sSeq (sFor (vSeq (vCl (zat 1 zeO) (zab (vVar 0) a0))) (zeh 2 (zaG (gN 3) (zaG (gN 4) zeF))) zbJ)
  (zgY "NoPlace" (zab (cS "the row ends before this place") a0)))))
noncomputable def zde:List A→Mo A:=fnF 5 zdu
end M
namespace KS
open PySem PySem.W PyProof.Rows
def go {α:Type} (lt:Nat→Nat→Bool):KasT α→α
 | .ret a=>a
 | .ask i j k=>go lt (k (lt i j))
theorem zjE {α β:Type} (lt:Nat→Nat→Bool) (f:α→KasT β):∀ t:KasT α,go lt (t.bind f)=go lt (f (go lt t))
 | .ret _=>rfl
 | .ask i j k=>by
  show go lt ((k (lt i j)).bind f)=_
  rw [zjE lt f (k (lt i j))];rfl
section
variable (r:Nat→Int)
abbrev ltR:Nat→Nat→Bool:=fun i j=>decide (r i < r j)
def Ky (p:Array Nat) (i:Nat):Int:=r (p.getD i 0)
def Up (p:Array Nat) (k:Nat):Prop:=∀ i j,i ≤ j→j < k→Ky r p i ≤ Ky r p j
def Dn (p:Array Nat) (k:Nat):Prop:=∀ i j,i ≤ j→j < k→Ky r p j ≤ Ky r p i
variable {r}
theorem getD_eq {p q:Array Nat} {i j:Nat} (h:p[i]? = q[j]?):p.getD i 0=q.getD j 0:=by
 simp [Array.getD_eq_getD_getElem?,h]
theorem zmZ {p q:Array Nat} {i j:Nat} (h:Ky r p i < Ky r q j):ltR r (p.getD i 0) (q.getD j 0)=true:=decide_eq_true h
theorem zqW {p q:Array Nat} {i j:Nat} (h:¬ Ky r p i < Ky r q j):ltR r (p.getD i 0) (q.getD j 0)=false:=decide_eq_false h
theorem zsR {p:Array Nat} {i j:Nat} (hj:j ≤ p.size) (k:Nat):Ky r (kas_rev p i j) k=if i ≤ k∧k < j then Ky r p (i + j - 1 - k) else Ky r p k:=by
 have h:=getElem?_mirror_all (i:=i) hj k
 unfold Ky kas_rev
 split
 ·rename_i c;rw [if_pos c] at h;rw [getD_eq h]
 ·rename_i c;rw [if_neg c] at h;rw [getD_eq h]
theorem zjq {p:Array Nat} {i j:Nat} (hj:j ≤ p.size) (e:∀ k,i ≤ k→k < j→Ky r p k=Ky r p (j - 1)) (k:Nat):Ky r (kas_rev p i j) k=Ky r p k:=by
 rw [zsR hj]
 split
 ·rename_i c;rw [e _ (by omega) (by omega),e k c.1 c.2]
 ·rfl
theorem zff (p:Array Nat) (i j:Nat):(kas_rev p i j).size=p.size:=mirror_size _ _ _ _
theorem zi1 (p:Array Nat) (i j:Nat):(kas_rev p i j).Perm p:=mirror_perm _ _ _ _
theorem zvA {p:Array Nat} {n:Nat} (h1:1 ≤ n) (h:Up r p n) (hn:Ky r p (n - 1) ≤ Ky r p n):Up r p (n + 1):=by
 intro i j hij hj
 by_cases e:j=n
 ·subst e
  by_cases e2:i=j
  ·subst e2;exact Int.le_refl _
  ·exact Int.le_trans (h i (j - 1) (by omega) (by omega)) hn
 ·exact h i j hij (by omega)
theorem zk3 {p:Array Nat} {n:Nat} (h1:1 ≤ n) (h:Dn r p n) (hn:Ky r p n ≤ Ky r p (n - 1)):Dn r p (n + 1):=by
 intro i j hij hj
 by_cases e:j=n
 ·subst e
  by_cases e2:i=j
  ·subst e2;exact Int.le_refl _
  ·exact Int.le_trans hn (h i (j - 1) (by omega) (by omega))
 ·exact h i j hij (by omega)
theorem asc {p:Array Nat}:∀ (f n:Nat),1 ≤ n→Up r p n→∃ m,go (ltR r) (kas_asc p f n)=m∧n ≤ m∧m ≤ n + f∧Up r p m∧(m < n + f→Ky r p m < Ky r p (m - 1))
 | 0,n,_,h=>⟨n,rfl,Nat.le_refl _,Nat.le_refl _,h,fun z=>by omega⟩
 | f + 1,n,h1,h=>by
  by_cases c:Ky r p n < Ky r p (n - 1)
  ·refine ⟨n,?_,Nat.le_refl _,by omega,h,fun _=>c⟩
   have c':=zmZ c
   simp only [kas_asc,go,c',if_true]
  ·obtain ⟨m,e,a,b,u,l⟩:=asc f (n + 1) (by omega) (zvA h1 h (by omega))
   refine ⟨m,?_,by omega,by omega,u,fun z=>l (by omega)⟩
   rw [← e]
   have c':=zqW c
   simp only [kas_asc,go,c',Bool.false_eq_true,if_false]
theorem desc:∀ (f:Nat) (p:Array Nat) (n q:Nat),q + 1 ≤ n→n + f ≤ p.size→Dn r p n→(∀ k,n - (q + 1) ≤ k→k < n→Ky r p k=Ky r p (n - 1)) →
  ∃ p' m q',go (ltR r) (kas_desc f p n q)=(p',m,q')∧n ≤ m∧m ≤ n + f∧q' + 1 ≤ m∧p'.size=p.size∧p'.Perm p∧(∀ k,Ky r p' k=Ky r p k)∧Dn r p' m∧(∀ k,m - (q' + 1) ≤ k→k < m→Ky r p' k=Ky r p' (m - 1))
 | 0,p,n,q,hq,_,hd,he=>⟨p,n,q,rfl,Nat.le_refl _,Nat.le_refl _,hq,rfl, .refl _,fun _=>rfl,hd,he⟩
 | f + 1,p,n,q,hq,hz,hd,he=>by
  by_cases c:Ky r p n < Ky r p (n - 1)
  ·have c':=zmZ c
   have hd1:Dn r p (n + 1):=zk3 (by omega) hd (by omega)
   by_cases q0:q > 0
   ·have ek:∀ k,Ky r (kas_rev p (n - (q + 1)) n) k=Ky r p k:=zjq (by omega) he
    have hd2:Dn r (kas_rev p (n - (q + 1)) n) (n + 1):=fun i j a b=>by rw [ek,ek];exact hd1 i j a b
    obtain ⟨p',m,q',e,a1,a2,a3,a4,a5,a6,a7,a8⟩:=desc f (kas_rev p (n - (q + 1)) n) (n + 1) 0 (by omega) (by rw [zff];omega) hd2 (fun k k1 k2=>by
     have:k=n + 1 - 1:=by omega
     rw [this])
    refine ⟨p',m,q',?_,by omega,by omega,a3,by rw [a4,zff],a5.trans (zi1 _ _ _),fun k=>by rw [a6,ek],a7,a8⟩
    rw [← e]
    simp only [kas_desc,go,c',if_true,q0]
   ·obtain ⟨p',m,q',e,a1,a2,a3,a4,a5,a6,a7,a8⟩:=desc f p (n + 1) 0 (by omega) (by omega) hd1 (fun k k1 k2=>by
     have:k=n + 1 - 1:=by omega
     rw [this])
    refine ⟨p',m,q',?_,by omega,by omega,a3,a4,a5,a6,a7,a8⟩
    rw [← e]
    simp only [kas_desc,go,c',if_true,q0,if_false]
  ·have c':=zqW c
   by_cases d:Ky r p (n - 1) < Ky r p n
   ·have d':=zmZ d
    refine ⟨p,n,q,?_,Nat.le_refl _,by omega,hq,rfl, .refl _,fun _=>rfl,hd,he⟩
    simp only [kas_desc,go,c',d',Bool.false_eq_true,if_true,if_false]
   ·have d':=zqW d
    have eq:Ky r p n=Ky r p (n - 1):=by omega
    obtain ⟨p',m,q',e,a1,a2,a3,a4,a5,a6,a7,a8⟩:=desc f p (n + 1) (q + 1) (by omega) (by omega) (zk3 (by omega) hd (by omega)) (fun k k1 k2=>by
     rw [show n + 1 - 1=n by omega]
     by_cases z:k=n
     ·rw [z]
     ·rw [he k (by omega) (by omega),eq])
    refine ⟨p',m,q',?_,by omega,by omega,a3,a4,a5,a6,a7,a8⟩
    rw [← e]
    simp only [kas_desc,go,c',d',Bool.false_eq_true,if_false]
theorem zr6 {p:Array Nat} {n:Nat} (hn:n ≤ p.size) (h:Dn r p n):Up r (kas_rev p 0 n) n:=by
 intro i j hij hj
 rw [zsR hn,zsR hn,if_pos ⟨by omega,by omega⟩,if_pos ⟨by omega,hj⟩]
 exact h _ _ (by omega) (by omega)
theorem tail3 {p:Array Nat} {n nrem:Nat} (h1:1 ≤ n) (hn:n ≤ nrem) (hz:nrem ≤ p.size) (h:Dn r p n):∃ m p',go (ltR r) (kas_tail3 n nrem p)=(m,p')∧1 ≤ m∧m ≤ nrem∧p'.size=p.size∧p'.Perm p∧Up r p' m:=by
 obtain ⟨m,e,a,b,u,_⟩:=asc (r:=r) (nrem - n) n h1 (zr6 (by omega) h)
 refine ⟨m,kas_rev p 0 n,?_,by omega,by omega,zff _ _ _,zi1 _ _ _,u⟩
 unfold kas_tail3
 rw [zjE,e];rfl
theorem descPart {p:Array Nat} {n nrem:Nat} (h1:1 ≤ n) (hn:n + 1 ≤ nrem) (hz:nrem ≤ p.size) (h:Dn r p (n + 1)):∃ m p',go (ltR r) (kas_descPart n nrem p)=(m,p')∧1 ≤ m∧m ≤ nrem∧p'.size=p.size∧p'.Perm p∧Up r p' m:=by
 obtain ⟨p1,m1,q1,e,a1,a2,a3,a4,a5,a6,a7,a8⟩:=desc (r:=r) (nrem - (n + 1)) p (n + 1) 0 (by omega) (by omega) h (fun k k1 k2=>by
  have:k=n + 1 - 1:=by omega
  rw [this])
 by_cases q0:q1 > 0
 ·have ek:∀ k,Ky r (kas_rev p1 (m1 - (q1 + 1)) m1) k=Ky r p1 k:=zjq (by omega) a8
  obtain ⟨m,p',e2,b1,b2,b3,b4,b5⟩:=tail3 (p:=kas_rev p1 (m1 - (q1 + 1)) m1) (n:=m1) (nrem:=nrem) (r:=r) (by omega) (by omega) (by rw [zff];omega) (fun i j x y=>by rw [ek,ek];exact a7 i j x y)
  refine ⟨m,p',?_,b1,b2,by rw [b3,zff,a4],b4.trans ((zi1 _ _ _).trans a5),b5⟩
  unfold kas_descPart
  rw [zjE,e]
  simp only [q0,if_true]
  exact e2
 ·obtain ⟨m,p',e2,b1,b2,b3,b4,b5⟩:=tail3 (p:=p1) (n:=m1) (nrem:=nrem) (r:=r) (by omega) (by omega) (by omega) a7
  refine ⟨m,p',?_,b1,b2,by rw [b3,a4],b4.trans a5,b5⟩
  unfold kas_descPart
  rw [zjE,e]
  simp only [q0,if_false]
  exact e2
theorem count {p:Array Nat} {nrem:Nat} (h1:1 ≤ nrem) (hz:nrem ≤ p.size):∃ m p',go (ltR r) (kas_count nrem p)=(m,p')∧1 ≤ m∧m ≤ nrem∧p'.size=p.size∧p'.Perm p∧Up r p' m:=by
 obtain ⟨n,e,a,b,u,l⟩:=asc (r:=r) (p:=p) (nrem - 1) 1 (Nat.le_refl _) (fun i j x y=>by
  have:i=j:=by omega
  rw [this];exact Int.le_refl _)
 unfold kas_count
 rw [zjE,e]
 by_cases c1:n=nrem
 ·subst c1
  refine ⟨n,p,by simp [go],a,Nat.le_refl _,rfl, .refl _,u⟩
 ·have c1':(n == nrem)=false:=by simpa using c1
  have lt:=l (by omega)
  simp only [c1',Bool.false_eq_true,if_false]
  by_cases c2:n > 1
  ·simp only [c2,if_true,go]
   by_cases c3:Ky r p 0 < Ky r p (n - 1)
   ·have c3':=zmZ c3
    simp only [c3',if_true,go]
    exact ⟨n,p,rfl,a,by omega,rfl, .refl _,u⟩
   ·have c3':=zqW c3
    simp only [c3',Bool.false_eq_true,if_false]
    have eqs:∀ k,k < n→Ky r p k=Ky r p (n - 1):=fun k hk=>by
     have x:=u 0 k (by omega) hk
     have y:=u k (n - 1) (by omega) (by omega)
     omega
    have ek:∀ k,Ky r (kas_rev p 0 n) k=Ky r p k:=zjq (by omega) fun k _ hk=>eqs k hk
    obtain ⟨m,p',e2,b1,b2,b3,b4,b5⟩:=descPart (r:=r) (p:=kas_rev p 0 n) (n:=n) (nrem:=nrem) (by omega) (by omega) (by rw [zff];omega) (zk3 (by omega) (fun i j x y=>by rw [ek,ek,eqs i (by omega),eqs j y];exact Int.le_refl _) (by rw [ek,ek];omega))
    exact ⟨m,p',e2,b1,b2,by rw [b3,zff],b4.trans (zi1 _ _ _),b5⟩
  ·simp only [c2,if_false]
   have n1:n=1:=by omega
   subst n1
   exact descPart (Nat.le_refl _) (by omega) hz (zk3 (Nat.le_refl _) (fun i j x y=>by
    have:i=j:=by omega
    rw [this];exact Int.le_refl _) (by omega))
theorem place {p:Array Nat} {k:Nat} (hu:Up r p k):∀ (f l t:Nat),l ≤ t→t ≤ k→t - l ≤ f→(∀ i,i < l→Ky r p i ≤ Ky r p k)→(∀ i,t ≤ i→i < k→Ky r p k < Ky r p i) →
  ∃ m,go (ltR r) (kas_place p k f l t)=m∧m ≤ k∧(∀ i,i < m→Ky r p i ≤ Ky r p k)∧(∀ i,m ≤ i→i < k→Ky r p k < Ky r p i)
 | 0,l,t,h1,h2,h3,h4,h5=>⟨l,rfl,by omega,h4,fun i a b=>h5 i (by omega) b⟩
 | f + 1,l,t,h1,h2,h3,h4,h5=>by
  by_cases c:l ≥ t
  ·exact ⟨l,by simp only [kas_place,c,if_true,go],by omega,h4,fun i a b=>h5 i (by omega) b⟩
  ·by_cases d:Ky r p k < Ky r p ((l + t) / 2)
   ·have d':=zmZ d
    obtain ⟨m,e,a1,a2,a3⟩:=place hu f l ((l + t) / 2) (by omega) (by omega) (by omega) h4 (fun i a b=>by
     have:=hu ((l + t) / 2) i a b
     omega)
    refine ⟨m,?_,a1,a2,a3⟩
    rw [← e]
    simp only [kas_place,c,if_false,go,d',if_true]
   ·have d':=zqW d
    obtain ⟨m,e,a1,a2,a3⟩:=place hu f ((l + t) / 2 + 1) t (by omega) h2 (by omega) (fun i a=>by
     have:=hu i ((l + t) / 2) (by omega) (by omega)
     omega) h5
    refine ⟨m,?_,a1,a2,a3⟩
    rw [← e]
    simp only [kas_place,c,if_false,go,d',Bool.false_eq_true]
end
end KS
namespace KS
open PySem PySem.W PyProof.Rows
def reach {α:Type} (lt:Nat→Nat→Bool) (N:Nat):KasT α→Prop
 | .ret _=>True
 | .ask i j k=>i < N∧j < N∧reach lt N (k (lt i j))
def Bd (N:Nat) (p:Array Nat):Prop:=0 < N∧∀ x ∈ p,x < N
section
variable {lt:Nat→Nat→Bool} {N:Nat}
theorem Bd.get {p:Array Nat} (h:Bd N p) (i:Nat):p.getD i 0 < N:=by
 rw [Array.getD_eq_getD_getElem?]
 cases e:p[i]? with
 | none=>exact h.1
 | some x=>exact h.2 x (Array.mem_of_getElem? e)
end
end KS
namespace KS
open PySem PySem.W PyProof.Rows
def lexB:List Int→List Int→Bool
 | [],[]=>false
 | [],_ :: _=>true
 | _ :: _,[]=>false
 | a :: as,b :: bs=>if a=b then lexB as bs else decide (a < b)
section
variable {prog:Program} {w:World} {A:Around} {E:Value→Shared→Prop} {s:Shared}
end
end KS
namespace KS
open PySem PySem.W PyProof.Rows
def TupAt (h:Heap) (v:Value) (ns:List Int):Prop:=∃ a o xs n,v = .ref a∧h.get? a=some o∧o.cls = .type "tuple"∧o.data = .seq xs n∧IntsAre xs.toList ns
def zf7 (h:Heap):List Value→List (List Int)→Prop
 | [],[]=>True
 | v :: vs,t :: ts=>TupAt h v t∧zf7 h vs ts
 | _,_=>False
theorem zf7.len {h:Heap}:∀ {vs:List Value} {ts:List (List Int)},zf7 h vs ts→vs.length=ts.length
 | [],[],_=>rfl
 | _ :: _,_ :: _,t=>by simp [zf7.len t.2]
 | [],_ :: _,t=>t.elim
 | _ :: _,[],t=>t.elim
theorem zf7.get {h:Heap}:∀ {vs:List Value} {ts:List (List Int)},zf7 h vs ts→∀ i,i < ts.length→TupAt h (vs.getD i .none) (ts.getD i [])
 | [],[],_,i,hi=>by simp at hi
 | _ :: _,_ :: _,t,0,_=>t.1
 | _ :: _,_ :: _,t,i + 1,hi=>by simpa using zf7.get t.2 i (by simpa using hi)
 | [],_ :: _,t,_,_=>t.elim
 | _ :: _,[],t,_,_=>t.elim
theorem zf7.keeps {h h':Heap} (k:∀ b o,h.get? b=some o→o.cls = .type "tuple"→h'.get? b=some o):∀ {vs:List Value} {ts:List (List Int)},zf7 h vs ts→zf7 h' vs ts
 | [],[],_=>trivial
 | _ :: _,_ :: _,⟨⟨a,o,xs,n,h1,h2,h3,h4⟩,t⟩=>⟨⟨a,o,xs,n,h1,k _ _ h2 h3,h3,h4⟩,zf7.keeps k t⟩
 | [],_ :: _,t=>t.elim
 | _ :: _,[],t=>t.elim
section
variable {prog:Program} {w:World} {A:Around} {E:Value→Shared→Prop} {s:Shared}
end
end KS
namespace V2
open PySem PySem.Spec PyProof.Rows L2 KS
def TupV (H:Hp):List V→List (List Int)→Prop
 | [],[]=>True
 | y :: ys,t :: ts=>(∃ b,y = .ref b∧H b=some (.tup (t.map V.int)))∧TupV H ys ts
 | _,_=>False
section
variable {X:Cx} {W:WX}
theorem TupV.len {H:Hp}:∀ {ys:List V} {ts:List (List Int)},TupV H ys ts→ys.length=ts.length
 | [],[],_=>rfl
 | _ :: _,_ :: _,t=>by simp [TupV.len t.2]
 | [],_ :: _,t=>t.elim
 | _ :: _,[],t=>t.elim
end
end V2
namespace V2
open PySem PySem.Spec PyProof.Rows L2
section
variable {X:Cx} {W:WX}
end
end V2
namespace M
open PySem V2
end M
namespace V2
open PySem PySem.Spec PyProof PyProof.Rows L2
section
variable {X:Cx} {W:WX} {e a b:Expr} {es:List Expr} {pos:Pos} {fa fb:Ev→Mo A} {te:TE} {tl th tk:TO} {lo hi stp:Option Expr}
end
end V2
namespace L2
open PySem PySem.Spec PyProof.Rows
section
variable {X:Cx}
end
end L2
namespace V2
open PySem PySem.Spec PyProof.Rows L2
end V2
namespace L2
open PySem PySem.Spec PyProof.Rows
def BltB (h:Heap) (mg:Str→Option Value):Prop:=∃ bm o,mg "__builtins__" = some (.ref bm)∧bm ≠ builtinsNs∧h.get? bm=some o∧o.cls = .type "module"∧o.dict=some builtinsNs∧o.data = .plain
end L2
namespace L2
open PySem PySem.Spec PyProof.Rows
structure zAk (h:Heap) (H:Hp) (f:Addr) (qual:Str) (params:Arguments) (body:Expr) (scope:Scope) (caps:List (Str × Int)):Prop where
 ex:∃ (cl:List (Str × Addr)) (pm ctv:Value) (c':Addr) (oc:Obj) (vs:Array Value) (t:Tok),
  H f=some (.frz (PySem.W.kla_obj "<lambda>" qual params body scope cl pm c' ctv) (.own 0))∧H c'=some (.frz oc (.own 0))∧oc.data = .fields vs∧vs[1]? = some (.str qual t) ∧
  (∀ x y c,cl.lookup x=some c→cl.lookup y=some c→x=y)∧(∀ y ∈ scope.names,y.2 = .free→∃ c,cl.lookup y.1=some c) ∧
  (∀ x c,cl.lookup x=some c→(∃ v,h.IsCell c v)∧H c=none)∧∀ p ∈ caps,∃ c t,cl.lookup p.1=some c∧h.IsCell c (some (.int p.2 t))
structure ztE (scope:Scope) (y:Str) (cs:List Str):Prop where
 kind:scope.kind = .function
 co:scope.isCoroutine=false
 gen:scope.isGenerator=false
 nocell:∀ x ∈ scope.names,x.2 ≠ .cell
 par:scope.names.lookup y=some .local
 cap:∀ x ∈ cs,scope.names.lookup x=some .free
section
variable {P:Program} {w:World} {K:PySem.W.Frag} {mg:Str→Option Value} {base:Heap} {A:Around} {outer:List Env} {s:Shared} {H:Hp}
end
end L2
namespace V2
open PySem PySem.Spec PyProof.Rows L2
section
variable {X:Cx} {W:WX} {e:Expr} {fa:Ev→Mo A} {p pos:Pos}
end
end V2
namespace L2
open PySem PySem.Spec PyProof.Rows
section
variable {X:Cx}
end
end L2
namespace L2
open PySem PySem.Spec PyProof.Rows
end L2
namespace V2
open PySem PySem.Spec PyProof.Rows L2
structure TabF (K:PySem.W.Frag) (mg:Str→Option Value) (base:Heap) (x:Str):Prop where
 kin:K.In base
 glob:base.Ns mainGlobals mg
 blt:BltB base mg
 hd:∃ c P,PySem.W.tabIn K x=some (c,P)∧PySem.W.codeHdIn K c P=true
section
variable {P:Program} {w:World} {K:PySem.W.Frag} {mg:Str→Option Value} {base:Heap}
end
end V2
namespace V2
open PySem PySem.Spec PyProof.Rows L2
section
variable {X:Cx} {W:WX} {e:Expr} {fa:Ev→Mo A} {p pos:Pos}
end
end V2
namespace V2
open PySem PySem.Spec PyProof.Rows L2
structure FwOk (X:Cx) (scope:Scope) (y:Str) (cs:List Str) (js:List Nat):Prop where
 S:ztE scope y cs
 free:∀ y ∈ scope.names,y.2 = .free→X.env.kindOf y.1=some .cell∨X.env.kindOf y.1=some .free
 caps:js.map (fun j=>X.N[j]?)=cs.map some
 cell:∀ x ∈ cs,X.env.scope.names.lookup x=some .cell
def zvR (sc:Scope) (N:List Str) (scope:Scope) (y:Str) (cs:List Str) (js:List Nat):Prop :=
 ((scope.kind == .function)=true∧scope.isCoroutine=false∧scope.isGenerator=false)∧(∀ x ∈ scope.names,(x.2 == .cell)=false)∧(scope.names.lookup y == some .local)=true∧(∀ x ∈ cs,(scope.names.lookup x == some .free)=true) ∧
 (∀ y ∈ scope.names,(y.2 == .free)=true→(sc.names.lookup y.1 == some .cell)=true)∧js.map (fun j=>N[j]?)=cs.map some∧∀ x ∈ cs,(sc.names.lookup x == some .cell)=true
instance (sc:Scope) (N:List Str) (scope:Scope) (y:Str) (cs:List Str) (js:List Nat):Decidable (zvR sc N scope y cs js):=by unfold zvR;infer_instance
theorem FwOk.of {X:Cx} {scope:Scope} {y:Str} {cs:List Str} {js:List Nat} (sc:Scope) (N:List Str) (h1:X.env.scope=sc) (h2:X.N=N) (h:zvR sc N scope y cs js):FwOk X scope y cs js:=by
 obtain ⟨⟨a1,a2,a3⟩,a4,a5,a6,a7,a8,a9⟩:=h
 refine ⟨⟨by simpa using a1,a2,a3,fun x hx=>by simpa using a4 x hx,by simpa using a5,fun x hx=>by simpa using a6 x hx⟩,fun y hy hf => .inl ?_,by rw [h2];exact a8,fun x hx=>by rw [h1];simpa using a9 x hx⟩
 have:=a7 y hy (by simp [hf])
 show X.env.scope.names.lookup y.1=some .cell
 rw [h1];simpa using this
@[elab_as_elim] theorem us0 {P:List Value→Prop} (us:List Value) (h:us.length=0) (f:P []):P us:=by cases us with | nil=>exact f | cons _ _=>simp at h
@[elab_as_elim] theorem us1 {P:List Value→Prop} (us:List Value) (h:us.length=1) (f:∀ a,P [a]):P us:=by
 cases us with
 | nil=>simp at h
 | cons a r=>exact us0 r (by simpa using h) (f a)
@[elab_as_elim] theorem us2 {P:List Value→Prop} (us:List Value) (h:us.length=2) (f:∀ a b,P [a,b]):P us:=by
 cases us with
 | nil=>simp at h
 | cons a r=>exact us1 (P:=fun r=>P (a :: r)) r (by simpa using h) (f a)
@[elab_as_elim] theorem us3 {P:List Value→Prop} (us:List Value) (h:us.length=3) (f:∀ a b c,P [a,b,c]):P us:=by
 cases us with
 | nil=>simp at h
 | cons a r=>exact us2 (P:=fun r=>P (a :: r)) r (by simpa using h) (f a)
@[elab_as_elim] theorem us4 {P:List Value→Prop} (us:List Value) (h:us.length=4) (f:∀ a b c d,P [a,b,c,d]):P us:=by
 cases us with
 | nil=>simp at h
 | cons a r=>exact us3 (P:=fun r=>P (a :: r)) r (by simpa using h) (f a)
@[elab_as_elim] theorem us5 {P:List Value→Prop} (us:List Value) (h:us.length=5) (f:∀ a b c d e,P [a,b,c,d,e]):P us:=by
 cases us with
 | nil=>simp at h
 | cons a r=>exact us4 (P:=fun r=>P (a :: r)) r (by simpa using h) (f a)
section
variable {P:Program} {w:World} {K:PySem.W.Frag} {mg:Str→Option Value} {base:Heap}
end
end V2
namespace M
open PySem V2
end M
namespace V2
open PySem PySem.Spec PyProof.Rows L2
section
variable {X:Cx} {W:WX}
end
end V2
namespace M
open PySem V2
end M
namespace L2
open PySem PySem.Spec PyProof.Rows
section
variable {prog:Program} {w:World} {A:Around} {E:Value→Shared→Prop} {h:Heap} {g:Array GenState} {d:Drawn} {t:Nat} {os:OsState}
variable {nm q:Str} {C N:Addr} {bs bm bmB:List Value} {hdct:Bool} {sn:List Str} {sub:List Value} {ab:Bool} {col:Option Bool} {dd:Option Addr} {k0 k1 k2 k3 k5:Option Value} {B newId initId:String}
end
end L2
namespace L2
open PySem PySem.Spec PyProof.Rows
section
variable {prog:Program} {w:World} {A:Around} {E:Value→Shared→Prop} {h:Heap} {g:Array GenState} {d:Drawn} {t:Nat} {os:OsState}
variable {nm q:Str} {C N:Addr} {bs bm bmB:List Value} {hdct:Bool} {sn:List Str} {sub:List Value} {ab:Bool} {col:Option Bool} {dd:Option Addr} {k0 k1 k2 k3 k5:Option Value} {B newId initId:String}
end
end L2
namespace L2
open PySem PySem.Spec PyProof.Rows Builtin Builtin.ObjectAttr
section
variable {prog:Program} {w:World} {A:Around} {E:Value→Shared→Prop} {h:Heap} {g:Array GenState} {d:Drawn} {t:Nat} {os:OsState} {K:PySem.W.Frag}
variable {nm q:Str} {C N:Addr} {bs bm:List Value} {sn:List Str} {sub:List Value} {ab:Bool} {col:Option Bool} {dd:Option Addr} {k0 k1 k2 k3 k5:Option Value} {newId:String}
end
end L2
namespace L2
open PySem PySem.Spec PyProof.Rows
section
variable {X:Cx}
def zzv (j:Nat):TE:=fun σ H Q=>∃ i,σ[j]? = some (some (.int i))∧i.natAbs.log2 < 1920∧∀ x,Q (.str x) H
end
end L2
namespace L2
open PySem PySem.Spec PyProof.Rows
theorem zqn {K:PySem.W.Frag} {h:Heap} {N:Addr} {mg:Str→Option Value} {n:Str} {v:Value} (X:K.In h) (G:h.Ns N mg) (e:PySem.W.nsIn K N n=some (some v)):mg n=some v:=by
 obtain ⟨o,es,ep,ho,hd,_,hf⟩:=G
 unfold PySem.W.nsIn at e
 split at e
 ·rename_i c d es' n' sl q
  have:=X _ _ q
  rw [ho] at this
  cases this
  cases hd
  split at e
  ·rename_i en he
   cases e
   rw [← hf]
   unfold nsFind findBy
   rw [← Array.find?_toList,he]
   rfl
  ·split at e <;> cases e
 ·cases e
def zu8 (K:PySem.W.Frag) (C fI:Addr):Bool:=match K.lookup C with
 | some ⟨.type "type",_, .cls cd,sl⟩=>(match cd.mro,sl.toList with
  | .ref C' :: bm,[_,_,_,_,some (.builtin n),_]=>C' == C && n == "ValueError.__new__" && !cd.hasDel && cd.hasDict && PySem.W.tailIn K bmVE bm && PySem.W.nsOkIn K cd.ns && PySem.W.nsIn K cd.ns "__init__" == some (some (.ref fI))
  | _,_=>false)
 | _=>false
structure OwnI (K:PySem.W.Frag) (C fI:Addr) (fld:Str):Prop where
 inK:zu8 K C fI=true
 fn:PySem.W.typeIn K (.ref fI)=some (.type "function")
 setA:PySem.W.findIn K (.ref C) "__setattr__" = some (some (.builtin "object.__setattr__"))
 nof:PySem.W.findIn K (.ref C) fld=some none
theorem OwnI.obj {K:PySem.W.Frag} {C fI:Addr} {fld:Str} (O:OwnI K C fI fld) {h:Heap} (X:K.In h):∃ bm N nm q bs sn sub ab col dd k0 k1 k2 k3 k5 mN oI,h.get? C=some (excClassObj nm q C N bs bm true sn sub ab col dd k0 k1 k2 k3 k5 "ValueError.__new__")∧h.Ns N mN∧mN "__init__" = some (.ref fI)∧OwnTail h bmVE bm∧h.get? fI=some oI∧oI.cls = .type "function":=by
 have q:=O.inK
 obtain ⟨oI,ho',hc'⟩:=Option.map_eq_some_iff.mp O.fn
 unfold zu8 at q
 split at q
 ·rename_i dd cd sl ho
  split at q
  ·rename_i C' bm k0 k1 k2 k3 n k5 hm hs
   simp only [Bool.and_eq_true,beq_iff_eq,Bool.not_eq_true'] at q
   obtain ⟨⟨⟨⟨⟨⟨rfl,rfl⟩,hdel⟩,hdi⟩,ht⟩,hok⟩,hni⟩:=q
   obtain ⟨nm,bs,mro,ns,qn,hd,sn,sub,ab,col,del⟩:=cd
   dsimp only at hm hdel hok hni hdi
   subst hm hdel hdi
   have hsl:sl = #[k0,k1,k2,k3,some (.builtin "ValueError.__new__"),k5]:=by
    obtain ⟨l⟩:=sl
    simp only at hs
    rw [hs]
   subst hsl
   exact ⟨bm,ns,nm,qn,bs,sn,sub,ab,col,dd,k0,k1,k2,k3,k5,_,oI,X _ _ ho, .of_isNs (PySem.W.isNs_of_in X hok),zqn X (.of_isNs (PySem.W.isNs_of_in X hok)) hni,PySem.W.tail_of_in X ht,X _ _ ho',hc'⟩
  ·cases q
 ·cases q
structure zAo (K:PySem.W.Frag) (R:Addr):Prop where
 reads:PySem.W.readsIn K R (.type "type")=true
 find:PySem.W.findCls K (.ref R) (.type "type") "__init__" = some (.val (.builtin "ValueError.__init__"))
 ga:PySem.W.specialIn K (.ref R) "__getattribute__" = some (some (.builtin "type.__getattribute__"))
end L2
namespace L2
open PySem PySem.Spec PyProof.Rows
section
variable {X:Cx} {pins:List (Addr × Obj)} {σ:St} {H:Hp} {s1:Shared} {C fI R e:Addr} {fld qual rk sf pa:Str} {st:Stmt} {fd:FuncData} {t:Tok} {i:Int} {h2:Heap} {k:Nat} {je:Expr} {np ap cp ep p1 p2 ap2 p3 apos:Pos}
end
end L2
namespace L2
open PySem PySem.Spec PyProof.Rows
section
variable {X:Cx} {pins:List (Addr × Obj)} {σ:St} {H:Hp} {s1:Shared} {C fI R e:Addr} {fld qual rk sf pa:Str} {st:Stmt} {fd:FuncData} {t:Tok} {i:Int} {h2:Heap} {k:Nat} {je:Expr} {np ap cp ep p1 p2 ap2 p3 apos:Pos}
structure zAi (st:Stmt) (fld rk sf pa:Str):Prop where
 scope:zaq [sf,pa] [sf,pa] (zac st)
 glob:(zac st).names.lookup rk=some .globalImplicit
 loc0:(zac st).names.lookup sf=some .local
 loc1:(zac st).names.lookup pa=some .local
 dbg:(rk == ("__debug__" : Str))=false∧(sf == ("__debug__" : Str))=false∧(pa == ("__debug__" : Str))=false∧(sf == ("__classdict__" : Str))=false∧(pa == ("__classdict__" : Str))=false
 text:∃ (je:Expr) (np ap cp ep p1 p2 ap2 p3 apos:Pos),zaj st=[.Expr (.Call (.Attribute (.Name rk np) "__init__" ap) [.Name sf p1,je] [] cp) ep, .Assign [.Attribute (.Name sf p2) fld ap2] (.Name pa p3) apos] ∧
  (∀ env,starEach [.Name sf p1,je] env=(false,eval (.Name sf p1) env) :: starEach [je] env)∧(∀ env,starEach [je] env=(false,eval je env) :: starEach [] env) ∧
  (∀ env:Env,∃ pl,eval (.Call (.Attribute (.Name rk np) "__init__" ap) [.Name sf p1,je] [] cp) env=(do
   let ov ← eval (.Name rk np) env
   standAt ap.atName
   let (f,first) ← holding [ov] (getMethod ov "__init__" pl)
   callWith cp f first (backTo cp (starEach [.Name sf p1,je] env)) [])) ∧
  (∀ env,swapsWith (.Call (.Attribute (.Name rk np) "__init__" ap) [.Name sf p1,je] [] cp) none ep.line env=pure false) ∧
  (∀ env,swapsWith (.Name pa p3) (some (.Attribute (.Name sf p2) fld ap2)) apos.line env=pure false) ∧
  (∀ Y:Cx,Y.N=[sf,pa]→Y.env.scope=zac st→PE Y je (zzv 1))
end
end L2
namespace L2
open PySem PySem.Spec PyProof.Rows
section
variable {M:Model} {A:Around} {E:Value→Shared→Prop} {env:Env}
variable {nm q:Str} {C N:Addr} {bs bm:List Value} {hdct:Bool} {sn:List Str} {sub:List Value} {ab:Bool} {col:Option Bool} {dd:Option Addr} {k0 k1 k2 k3 k5:Option Value} {newId:String}
end
section
variable {prog:Program} {w:World} {A:Around} {E:Value→Shared→Prop} {s:Shared} {env:Env}
variable {nm q:Str} {C N:Addr} {bs bm bmB:List Value} {hdct:Bool} {sn:List Str} {sub:List Value} {ab:Bool} {col:Option Bool} {dd:Option Addr} {k0 k1 k2 k3 k5:Option Value} {B newId initId:String}
end
section
variable {X:Cx} {W:WX} {x:Str} {pos np cpos:Pos} {e:Expr} {t:TA}
end
end L2
namespace L2
open PySem PySem.Spec PyProof.Rows Builtin Builtin.ObjectAttr
structure XAt (K:PySem.W.Frag) (D:Addr) (fld:Str):Prop where
 ga:PySem.W.findIn K (.ref D) "__getattribute__" = some (some (.builtin "BaseException.__getattribute__"))
 gx:PySem.W.findIn K (.ref D) "__getattr__" = some none
 no:PySem.W.findIn K (.ref D) fld=some none
 be:PySem.W.subIn K (.ref D) (.type "BaseException")=some true
 hd:(PySem.W.clsIn K D).any (·.hasDict)=true
section
variable {prog:Program} {w:World} {A:Around} {E:Value→Shared→Prop} {h:Heap} {g:Array GenState} {d:Drawn} {t:Nat} {os:OsState} {K:PySem.W.Frag} {a D dx:Addr} {o:Obj} {fld:Str} {mA:Str→Option Value} {v:Value} {vs:Array Value}
end
section
variable {X:Cx} {x D dx:Addr} {oe:Obj} {fld:Str} {i:Nat} {n:Str} {np pos:Pos}
end
section
variable {X:Cx} {C:Addr} {i:Nat} {n y:Str} {np pos:Pos} {b₀:Stmt} {suite:List Stmt} {rest:List ExceptHandler} {ts th:TH}
end
end L2
namespace V2
open PySem PySem.Spec PyProof.Rows L2
section
variable {K:PySem.W.Frag} {G H:Hp} {ι:List Addr} {Ω:Sto} {d:Addr}
end
section
variable {X:Cx} {W:WX} {x fld:Str} {e:Expr} {np cpos pos:Pos} {fs:Ev→Mo (List A)}
end
def zzt (e:Exc) (d:Addr) (dx:Option Addr):Prop:=(e.fs=[]∧dx=none)∨(e.fs ≠ []∧dx=some d)
structure Cau (K:PySem.W.Frag) (oe:Obj) (d:Addr) (e:Exc):Prop where
 dat:∃ vs,oe.data = .fields vs
 cls:∃ E,PySem.W.nsIn K mainGlobals e.cls=some (some (.ref E))∧oe.cls = .ref E
 dic:zzt e d oe.dict
end V2
namespace M
open PySem V2
end M
namespace V2
open PySem PySem.Spec PyProof.Rows L2
section
variable {X:Cx} {W:WX} {pos:Pos}
end
end V2
namespace V2
open PySem PySem.Spec PyProof.Rows L2
section
variable {X:Cx} {W:WX} {a b c d:Expr} {ta tb tc td:TE} {fa fb fc fd:Ev→Mo A} {pos:Pos}
def zyN (_ j:Int):Prop:=0 < j∧j < 1152921504606846976
instance (i j:Int):Decidable (zyN i j):=by unfold zyN;infer_instance
end
end V2
namespace M
open PySem V2
noncomputable def zdO:MS :=
 (sSeq (sAsg (vOp gIx (vVar 3) (cI 1)) (gN 4))
   (sSeq (sAsg (vOp (gAdd false) (vVar 1) (vVar 4)) (gN 1))
   (sIf (vOrT (zaP (vOp gLt (vVar 4) (cI 1))) (zaP (vOp gGt (vVar 1) (cI 1000000000))))
    (fun _ _=>none)
    sNx)))
noncomputable def zfs:MS :=
 (sSeq (sAsg (cI 0) (gN 1))
  (sSeq (sFor (zvk (vVar 0)) (zeh 2 (zaG (gN 2) (zaG (gN 3) zeF))) zdO)
  (sRet (vVar 1))))
noncomputable def zd1:List A→Mo A:=fnF 5 zfs
noncomputable def zeR:MS :=
 (sSeq (zse (vTup (zab (vOp (gAdd false) (vVar 2) (cI 1)) (zab (vOp (gAdd false) (vVar 2) (vVar 4)) a0))) (vVar 1) (vVar 3))
   (sAsg (vOp (gAdd false) (vVar 2) (vVar 4)) (gN 2)))
noncomputable def zfy:MS :=
 (sSeq (sAsg zwD (gN 1))
  (sSeq (sAsg (cI 0) (gN 2))
  (sSeq (sFor (vSeq (vCl (zat 1 zeO) (zab (vVar 0) a0))) (zeh 2 (zaG (gN 3) (zaG (gN 4) zeF))) zeR)
  (sRet (vVar 1)))))
noncomputable def zez:List A→Mo A:=fnF 5 zfy
end M
namespace PySem
section
variable {prog:Program} {w:World} {A:Around} {E:Value→Shared→Prop} {s:Shared}
end
set_option maxRecDepth 100000
section
variable {prog:Program} {w:World} {A:Around} {E:Value→Shared→Prop} {s:Shared}
end
end PySem
namespace V2
open PySem PySem.Spec PyProof.Rows L2
theorem zzk {P:Program} {w:World} {k:Key} {u:Value} (h:(zbz P w).is k u=true):RelV (kV k) u:=by
 rcases zbn (k:=k) (v:=u) h with ⟨i,t,q1,q2⟩ | ⟨x,t,q1,q2⟩
 ·subst q1;exact ⟨t,q2⟩
 ·subst q1;exact ⟨t,q2⟩
section
variable {X:Cx} {W:WX}
theorem zkP {α β:Type} {F:α→β→Prop}:∀ {l₁:List α} {l₂:List β},Paired F l₁ l₂→∀ {j:Nat} {a:α},l₁[j]? = some a→∃ b,l₂[j]? = some b∧F a b
 | _,_, .nil,j,a,h=>by simp at h
 | _,_, .cons r _,0,a,h=>by cases h;exact ⟨_,rfl,r⟩
 | _,_, .cons _ rs,j + 1,a,h=>by obtain ⟨b,q,f⟩:=zkP rs (j:=j) (by simpa using h);exact ⟨b,by simpa using q,f⟩
end
def kA:Key→A
 | .inl i => .int i
 | .inr s => .str s
theorem zxx {K:PySem.W.Frag} {G:Hp} {ι:List Addr} (k:Key):Den K G ι (kV k) (kA k):=by cases k <;> simp only [kV,kA,Den]
def itA (kv:Key × A):A := .tup [kA kv.1,kv.2]
section
variable {K:PySem.W.Frag}
end
section
variable {X:Cx} {W:WX}
end
end V2
namespace V2
open PySem PySem.Spec PyProof.Rows L2
section
variable {X:Cx} {W:WX}
end
end V2
namespace V2
open PySem PySem.Spec PyProof.Rows L2
section
variable {X:Cx} {W:WX} {pos:Pos}
end
end V2
namespace M
open PySem V2
end M
namespace M
open PySem V2
end M
namespace L2
open PySem PySem.Spec PyProof.Rows
def zzC (p:Addr) (oe:Obj) (outer:List Env) (s:Shared) (H:Hp):Prop:=s.heap.get? p=some oe∧H p=none∧p ∉ frs outer∧∀ v,oe.data ≠ .cell v
def RunP (P:Program) (w:World) (K:PySem.W.Frag) (mg:Str→Option Value) (base:Heap) (k:Nat) (f:Addr) (fd:FuncData) (ps:List Str) (p:Addr) (oe:Obj) (sp:Sp):Prop :=
 ∀ (A:Around) (outer:List Env) (s:Shared) (H:Hp) (args:Args) (us:List Value) (vs:List V) (Q:VK) (E:XK),Room k A→Env0 P w K mg base A outer s H→BindsTo s fd args (ps.zip us)→Vals vs us→zzC p oe outer s H→sp vs H Q E →
  codeAny (model P w) (A.mark (some (.ref p))) (.call (.ref f) args) (CR CX0 outer P w H s Q E) s
section
variable {P:Program} {w:World} {K:PySem.W.Frag} {mg:Str→Option Value} {base:Heap} {p:Addr} {oe:Obj}
set_option maxRecDepth 100000 in
theorem zx9 {k:Nat} {f:Addr} {name qual:Str} {params:Arguments} {body:List Stmt} {scope:Scope} {dV kV doc pm cdv ct oc:Value} {an od:Option Addr}
  {osl:Array (Option Value)} {N ps:List Str} {sp:Sp} (lk:K.lookup f=some ⟨oc,od, .func (PySem.W.fnOf name qual params body scope dV kV doc pm an cdv ct),osl⟩) (hcd:PySem.W.codeIn K cdv qual=true) (S:zaq N ps scope)
  (len:∀ vs H Q E,sp vs H Q E→vs.length=ps.length)
  (hbody:∀ (A:Around) (outer:List Env) (s:Shared) (H:Hp) (vs:List V) (Q:VK) (E:XK),Room k (A.deeper (envOfC qual scope s.heap.objs.size f cdv))→sp vs H Q E →
   ∃ t,PSs ((cxOf CX0 P w K mg base N qual scope f cdv A outer s H E).zc8 p oe) body t∧t { nx:=fun _ H'=>Q .non H',rt:=Q } (start N vs) H) :
  RunP P w K mg base (k + 1) f (PySem.W.fnOf name qual params body scope dV kV doc pm an cdv ct) ps p oe sp:=by
 intro A outer s H args us vs Q E hr e0 hb r pin hsp
 have hl:=len _ _ _ _ hsp
 have KX:K.In s.heap:=e0.mod.kin.keeps fun b o e=>(e0.bs b o e).1
 have lim:s.heap.NoLimit:=e0.mod.nolimit.keeps fun b o e=>(e0.bs b o e).1
 have hkind:∀ y ∈ ps.zip us,scope.names.lookup y.1=some .local∨(scope.names.lookup y.1=some .cell∧((cellsFrom (s.heap.objs.size + 1) scope.names []).lookup y.1).isSome=true):=fun ⟨n,v⟩ hy=>by
  rcases S.par n (List.of_mem_zip hy).1 with q | q
  ·exact .inl q
  ·exact .inr ⟨q,PySem.W.cellsFrom_some _ _ _ (.inl q)⟩
 refine codeAny_call_function (A:=A.mark (some (.ref p))) hr.depth (KX _ _ lk) rfl S.co S.gen rfl (PySem.W.codeRec_of KX hcd) (hb _ _ _ _ ?_)
 refine wpAny_newFunctionEnv_cells S.kind hkind fun env he s1 x=>?_
 subst he
 refine ⟨lim.keeps x.toInCall.keep,codeAny_func ?_⟩
 obtain ⟨t,ht,hq⟩:=hbody A outer s H vs Q E (hr.deeper _) hsp
 have I0:Inv (cxOf CX0 P w K mg base N qual scope f cdv A outer s H E) [] (start N vs) H s1:=zj4 S hr.hd e0 hl r x
 obtain ⟨p1,p2,p3,p4⟩:=pin
 have hlt:p < s.heap.objs.size:=by
  rcases Nat.lt_or_ge p s.heap.objs.size with h | h
  ·exact h
  ·exfalso
   first | (rw [Heap.get?_none_of_ge h] at p1;cases p1) | (simp [Heap.get?,h] at p1) | (unfold Heap.get? at p1;simp [h] at p1)
 have I:Inv ((cxOf CX0 P w K mg base N qual scope f cdv A outer s H E).zc8 p oe) [] (start N vs) H s1:=I0.zc8 ⟨x.toInCall.keep _ _ p1,p2,fun z=>absurd hlt (by rw [z];exact Nat.lt_irrefl _),p3,p4⟩
 refine wpAny_mono (ht [] s1 (start N vs) H _ I hq) (fun fl s' hs=>?_) fun e s' hs=>hs.elim
 have fin:∀ {σ':St} {H':Hp} {v:V} {u:Value},Inv ((cxOf CX0 P w K mg base N qual scope f cdv A outer s H E).zc8 p oe) [] σ' H' s'→RelV v u→Q v H'→CE outer P w H s Q u s' :=
  fun {σ' H' v u} J rv q=>⟨v,H',J.os,J.bare,J.base,J.hok,rv,q⟩
 cases fl with
 | ret u =>
  obtain ⟨v,σ',H',J,rv,q⟩:=hs
  exact fin J rv q
 | next =>
  obtain ⟨σ',H',J,q⟩:=hs
  exact fin (v:=V.non) (u:=Value.none) J rfl q
 | brk =>
  obtain ⟨_,_,_,q⟩:=hs
  exact False.elim q
 | cont =>
  obtain ⟨_,_,_,q⟩:=hs
  exact False.elim q
end
end L2
namespace V2
open PySem PySem.Spec PyProof.Rows L2
def DefP (P:Program) (w:World) (K:PySem.W.Frag) (mg:Str→Option Value) (base:Heap) (x:Str) (k:Nat) (ps:List Str) (p:Addr) (oe:Obj) (F:List A→Mo A):Prop :=
 ∃ f fd,RunP P w K mg base k f fd ps p oe (fun vs H Q _=>spV K ps.length F vs H Q fun _ _ _=>False)∧mg x=some (.ref f)∧PySem.W.keepIn K (.ref f)=true∧Binds K fd ps []
theorem DefP.of {P:Program} {w:World} {K:PySem.W.Frag} {mg:Str→Option Value} {base:Heap} {p:Addr} {oe:Obj} {x:Str} {st:Stmt} {N ps:List Str} {k:Nat} {b:MS} (h:HasFn K mg x st) (S:zaq N ps (zac st))
  (bind:∀ (kV doc pm:Value) (an:Option Addr) (cdv ct:Value) (us:List Value),us.length=ps.length→bindArgs (PySem.W.fnOf x x (zar st) (zaj st) (zac st) .none kV doc pm an cdv ct) ⟨us,[]⟩ = pure (ps.zip us))
  (hbody:∀ (f:Addr) (cdv:Value) (A:Around) (outer:List Env) (s:Shared) (H:Hp) (E:XK),Room k (A.deeper (envOfC x (zac st) s.heap.objs.size f cdv)) →
   VSs ((cxOf CX0 P w K mg base N x (zac st) f cdv A outer s H E).zc8 p oe) noW (zaj st) b):DefP P w K mg base x (k + 1) ps p oe (fnF N.length b):=by
 obtain ⟨f,fd,hm,F⟩:=h.ex
 refine ⟨f,fd,?_,hm,F.kp,F.binds bind⟩
 obtain ⟨oc,od,kV,doc,pm,an,cdv,ct,osl,rfl,lk,hcd⟩:=F.ex
 refine zx9 lk hcd S (fun vs H Q E h=>h.1) fun A outer s H vs Q E hr hsp=>?_
 obtain ⟨t,p,q⟩:=hbody f cdv A outer s H E hr
 exact ⟨t,p,zj9 (E:=fun _ _ _=>False) q hsp⟩
section
variable {X:Cx} {W:WX} {x:Str} {e:Expr} {es:List Expr} {np pos:Pos} {fs:Ev→Mo (List A)} {p:Addr} {oe:Obj}
end
end V2
namespace V2
open PySem PySem.Spec PyProof.Rows L2
end V2
namespace M
open PySem V2
end M
namespace V2
open PySem PySem.Spec PyProof.Rows L2
theorem zuU (a:A) (ha:pur 7 a=true):∀ (ds:List A),ds.all (pur 7)=true→((ds.map (toPy 7)).any fun y=>PyData.eqv y (toPy 7 a))=ds.any fun d=>eqA 7 d a
 | [],_=>rfl
 | d :: ds,h=>by
  simp only [List.all_cons,Bool.and_eq_true] at h
  simp only [List.map_cons,List.any_cons]
  rw [zle 7 d a h.1 ha,zuU a ha ds h.2]
def zyt (K:PySem.W.Frag) (neg:Bool):R2:=fun x y H Q=>∃ ι a ds,pur 7 a=true∧pur 8 (.lst ds)=true∧Den K H ι x a∧Den K H ι y (.lst ds)∧Q (.bl (if neg then !(ds.any fun d=>eqA 7 d a) else ds.any fun d=>eqA 7 d a)) H
theorem ztX {X:Cx} (hu:X.A.units + 64 < cLine):OpR X (compareOp .NotIn) (zyt X.K true):=by
 intro pins s σ H x y v u Q I rx ry h
 obtain ⟨ι,a,ds,h1,h2,d1,d2,q⟩:=h
 obtain ⟨as,q1⟩:=zgD I 7 x v a h1 d1 rx
 obtain ⟨bs,q2⟩:=zgD I 8 y u (.lst ds) h2 d2 ry
 have e1:=zin 7 a
 have hall:ds.all (pur 7)=true:=h2
 refine SeqAt.notIn_list_reads (xs:=ds.map (toPy 7)) q2 q1 (zoJ ds 7 (fun d _=>zgA 7 d) hall) (zgA 7 a h1) (by omega) ?_
 rw [zuU a h1 ds hall]
 exact ⟨.bl (!(ds.any fun d=>eqA 7 d a)),H,I,rfl,q⟩
def gMem (neg:Bool) (a b:A):Mo A:=fun Ω=>match res Ω 6 a,res Ω 6 b with
 | some x,some (.lst ds)=>if (pur 7 x && pur 8 (.lst ds))=true then some (.ok (.bl (if neg then !(ds.any fun d=>eqA 7 d x) else ds.any fun d=>eqA 7 d x)),Ω) else none
 | _,_=>none
theorem ztr {K:PySem.W.Frag} {W:WX} {neg:Bool}:OpV K W (zyt K neg) (gMem neg):=by
 intro G ι Ω H σ x y a b Q w d1 d2 h
 unfold gMem at h
 split at h
 ·rename_i a' ds e1 e2
  split at h
  ·rename_i hp
   simp only [Bool.and_eq_true] at hp
   exact ⟨ι,a',ds,hp.1,hp.2,zoP w 6 x a a' d1 e1,zoP w 6 y b _ d2 e2,h _ H G ι (Ext.refl _ _) w (by simp only [Den])⟩
  ·exact False.elim h
 ·exact False.elim h
theorem zyR {X:Cx} {W:WX} (hu:X.A.units + 64 < cLine):OpOk X W (compareOp .NotIn) (gMem true):=⟨_,ztX hu,ztr⟩
end V2
namespace V2
open PySem PySem.Spec PyProof.Rows L2
end V2
namespace V2
open PySem PySem.Spec PyProof.Rows L2
def sFrz (i:Nat) (g:MS):MS:=fun ρ Ω=>match (ρ[i]?).join with
 | some (.cel k)=>match Ω[k]? with
  | some (.lst ds)=>g (ρ.set i (some (.lst ds))) (Ω.set k .dead)
  | _=>none
 | _=>none
theorem zw0 {i k:Nat} {g:MS} {ρ:Ev} {Ω:Sto} {ds:List A} (h1:ρ[i]? = some (some (.cel k))) (h2:Ω[k]? = some (.lst ds)):sFrz i g ρ Ω=g (ρ.set i (some (.lst ds))) (Ω.set k .dead):=by
 unfold sFrz
 rw [h1]
 simp only [Option.join]
 simp [h2]
section
variable {X:Cx} {W:WX} {st:List Stmt} {g:MS}
theorem zvj (i:Nat) (h:VSs X W st g):VSs X W st (sFrz i g):=by
 obtain ⟨t,p,s⟩:=h
 refine ⟨t,p,fun G ι Ω H σ ρ D w r h=>?_⟩
 unfold sFrz at h
 cases e:(ρ[i]?).join with
 | none=>rw [e] at h;exact False.elim h
 | some d =>
  rw [e] at h
  cases d with
  | cel k =>
   simp only at h
   cases e2:Ω[k]? with
   | none=>rw [e2] at h;exact False.elim h
   | some c =>
    rw [e2] at h
    cases c with
    | lst ds =>
     obtain ⟨v,h1,h2⟩:=r.2 i _ (join_some e)
     simp only [Den] at h2
     obtain ⟨p,rfl,h4⟩:=h2
     obtain ⟨g,xs,h5,h6⟩:=w.cel k _ p e2 h4
     have x1:Ext G ι (upd G p (.lst xs)) ι:=Ext.new g _
     have r1:=(r.ext x1).set i (v := .ref p) (d := .lst ds) (by simp only [Den];exact ⟨p,xs,rfl,zay,h6.ext x1⟩)
     have e3:σ.set i (some (.ref p))=σ:=by
      apply List.ext_getElem?
      intro j
      by_cases hj:i=j
      ·subst hj
       rw [List.getElem?_set_self (List.getElem?_eq_some_iff.mp h1).1,h1]
      ·rw [List.getElem?_set_ne hj]
     rw [e3] at r1
     exact s _ ι _ H σ _ D (w.freeze h4 g h5) r1 (zb6.ext h x1)
    | _=>exact False.elim h
  | _=>exact False.elim h
end
end V2
namespace M
open PySem V2
end M
namespace M
open PySem V2
noncomputable def zaA:MS :=
 (sSeq (sIf (zaP (vOp gEq (vVar 1) (cI 0)))
   (sRet (vOp (gMod) (vVar 0) (cI 7)))
   sNx)
  (sSeq (sIf (zaP (vOp gEq (vVar 1) (cI 1)))
   (sRet (vOp (gSub) (vOp (gMod) (vVar 0) (cI 100)) (cI 50)))
   sNx)
  (sSeq (sIf (zaP (vOp gEq (vVar 1) (cI 2)))
   (sRet (vOp (gSub) (vOp (gMod) (vOp (gMul) (vOp (gMul) (vVar 0) (vVar 0)) (cI 48271)) (vOp (gAdd false) (vOp (gMul) (cI 2) (vOp (gPow) (cI 10) (cI 18))) (cI 1))) (vOp (gPow) (cI 10) (cI 18))))
   sNx)
  (sSeq (sIf (zaP (vOp gEq (vVar 1) (cI 3)))
   (sRet (vOp gIx (vLst false (zab (vOp (gAdd false) (vOp (gPow) (cI 10) (cI 59)) (vVar 0)) (zab (vOp (gSub) (vOp (gSub) (cI 0) (vOp (gPow) (cI 10) (cI 59))) (vVar 0)) (zab (vOp (gSub) (vOp (gPow) (cI 10) (cI 60)) (cI 1)) (zab (vOp (gSub) (cI 1) (vOp (gPow) (cI 10) (cI 60))) a0))))) (vOp (gMod) (vVar 0) (cI 4))))
   sNx)
  (sRet (vOp gIx (vLst false (zab (cI 5) (zab (vOp (gSub) (cI 0) (cI 5)) (zab (cI 0) a0)))) (vOp (gDiv) (vOp (gMod) (vVar 0) (cI 30)) (cI 14))))))))
noncomputable def zas:List A→Mo A:=fnF 2 zaA
noncomputable def ziI:MS :=
 (sRet (vAnd (vCl gIs1 (zab (vVar 0) (zab (cT "int") a0))) (vNot (vCl gIs1 (zab (vVar 0) (zab (cT "bool") a0))))))
noncomputable def zbB:List A→Mo A:=fnF 1 ziI
end M
namespace V2
open PySem PySem.Spec PyProof.Rows L2
def putD {α:Type} (f:Str) (v:α):List (Str × α)→List (Str × α)
 | []=>[(f,v)]
 | (g,x) :: r=>if g=f then (g,v) :: r else (g,x) :: putD f v r
@[simp] def Fd.cell:Fd→Option Cell
 | .lst ds=>some (.lst ds)
 | .dct kvs=>some (.dct kvs)
 | .val _=>none
theorem zhp {α:Type} {f:Str}:∀ {l:List (Str × α)} {x:α},l.lookup f=some x→∃ i,l[i]? = some (f,x)∧∀ y,putD f y l=l.set i (f,y)
 | [],_,h=>by simp at h
 | (g,z) :: r,x,h=>by
  by_cases e:g=f
  ·subst e
   simp [List.lookup] at h
   subst h
   exact ⟨0,rfl,fun y=>by simp [putD]⟩
  ·have hb:(f == g)=false:=beq_eq_false_iff_ne.mpr (Ne.symm e)
   simp only [List.lookup,hb] at h
   obtain ⟨i,h1,h2⟩:=zhp h
   exact ⟨i + 1,by simpa using h1,fun y=>by simp [putD,e,h2 y]⟩
theorem zds {α:Type} {f g:Str} {v:α}:∀ {l:List (Str × α)},(putD f v l).lookup g=if g=f then some v else l.lookup g
 | []=>by
  by_cases e:g=f
  ·subst e;simp [putD]
  ·have hb:(g == f)=false:=beq_eq_false_iff_ne.mpr e
   simp [putD,List.lookup,hb,e]
 | (k,x) :: r=>by
  have ih:=zds (f:=f) (g:=g) (v:=v) (l:=r)
  by_cases h:k=f
  ·subst h
   by_cases e:g=k
   ·subst e;simp [putD]
   ·have hb:(g == k)=false:=beq_eq_false_iff_ne.mpr e
    simp [putD,List.lookup,hb,e]
  ·by_cases e:g=k
   ·subst e;simp [putD,h]
   ·have hb:(g == k)=false:=beq_eq_false_iff_ne.mpr e
    simp only [putD,if_neg h,List.lookup,hb]
    exact ih
theorem zc1 {α:Type} {f:Str} {v w:α}:∀ {l:List (Str × α)},putD f w (putD f v l)=putD f w l
 | []=>by simp [putD]
 | (k,x) :: r=>by
  by_cases h:k=f
  ·simp [putD,h]
  ·simp [putD,h,zc1 (l:=r)]
theorem zhX {α:Type} {f:Str} {v:α}:∀ {l:List (Str × α)},l.lookup f=some v→putD f v l=l
 | [],h=>by simp at h
 | (k,x) :: r,h=>by
  by_cases e:k=f
  ·subst e
   simp [List.lookup] at h
   subst h
   simp [putD]
  ·have hb:(f == k)=false:=beq_eq_false_iff_ne.mpr (Ne.symm e)
   simp only [List.lookup,hb] at h
   simp [putD,e,zhX h]
section
variable {K:PySem.W.Frag} {G H:Hp} {ι:List Addr} {Ω:Sto}
theorem zcm:∀ {ws:List (Str × V)} {fs:List (Str × Fd)},zdG K G ι H ws fs↔ws.length=fs.length∧∀ (i:Nat) (h:Str) (v:V) (g:Str) (fd:Fd),ws[i]? = some (h,v)→fs[i]? = some (g,fd)→h=g∧FdOk K G ι H v fd
 | [],[]=>⟨fun _=>⟨rfl,fun i h v g fd q=>by simp at q⟩,fun _=>trivial⟩
 | [],_ :: _=>⟨fun h=>h.elim,fun h=>by simp at h⟩
 | _ :: _,[]=>⟨fun h=>h.elim,fun h=>by simp at h⟩
 | (f,v) :: ws,(g,d) :: fs=>by
  constructor
  ·rintro ⟨h1,h2,h3⟩
   obtain ⟨q1,q2⟩:=zcm.mp h3
   refine ⟨by simp [q1],fun i h v' g' fd a b=>?_⟩
   cases i with
   | zero=>simp at a b;obtain ⟨rfl,rfl⟩:=a;obtain ⟨rfl,rfl⟩:=b;exact ⟨h1,h2⟩
   | succ i=>exact q2 i h v' g' fd (by simpa using a) (by simpa using b)
  ·rintro ⟨q1,q2⟩
   obtain ⟨h1,h2⟩:=q2 0 f v g d rfl rfl
   exact ⟨h1,h2,zcm.mpr ⟨by simpa using q1,fun i h v' g' fd a b=>q2 (i + 1) h v' g' fd (by simpa using a) (by simpa using b)⟩⟩
theorem zdG.look {ws:List (Str × V)} {fs:List (Str × Fd)} {f:Str} {fd:Fd} (h:zdG K G ι H ws fs) (l:fs.lookup f=some fd):∃ v,ws.lookup f=some v∧FdOk K G ι H v fd:=by
 induction fs generalizing ws with
 | nil=>simp at l
 | cons p fs ih =>
  obtain ⟨g,d⟩:=p
  cases ws with
  | nil=>exact h.elim
  | cons q ws =>
   obtain ⟨g',v⟩:=q
   obtain ⟨e,h2,h3⟩:=h
   subst e
   by_cases hb:(f == g')=true
   ·simp only [List.lookup,hb] at l ⊢
    cases l
    exact ⟨v,rfl,h2⟩
   ·have hb:(f == g')=false:=by simpa using hb
    simp only [List.lookup,hb] at l ⊢
    exact ih h3 l
theorem zdG.zym {ws:List (Str × V)} {fs:List (Str × Fd)} {f:Str} (h:zdG K G ι H ws fs) (l:fs.lookup f=none):ws.lookup f=none:=by
 induction fs generalizing ws with
 | nil =>
  cases ws with
  | nil=>rfl
  | cons q ws=>exact h.elim
 | cons p fs ih =>
  obtain ⟨g,d⟩:=p
  cases ws with
  | nil=>exact h.elim
  | cons q ws =>
   obtain ⟨g',v⟩:=q
   obtain ⟨e,h2,h3⟩:=h
   subst e
   by_cases hb:(f == g')=true
   ·simp only [List.lookup,hb] at l;cases l
   ·have hb:(f == g')=false:=by simpa using hb
    simp only [List.lookup,hb] at l ⊢
    exact ih h3 l
theorem zdG.put {ws:List (Str × V)} {fs:List (Str × Fd)} {f:Str} {fd:Fd} {v:V} (h:zdG K G ι H ws fs) (d:FdOk K G ι H v fd):zdG K G ι H (putF f v ws) (putD f fd fs):=by
 induction fs generalizing ws with
 | nil =>
  cases ws with
  | nil=>exact ⟨rfl,d,trivial⟩
  | cons q ws=>exact h.elim
 | cons p fs ih =>
  obtain ⟨g,x⟩:=p
  cases ws with
  | nil=>exact h.elim
  | cons q ws =>
   obtain ⟨g',v'⟩:=q
   obtain ⟨e,h2,h3⟩:=h
   subst e
   by_cases hg:g'=f
   ·simp only [putF,putD,if_pos hg];exact ⟨rfl,d,h3⟩
   ·simp only [putF,putD,if_neg hg];exact ⟨rfl,h2,ih h3⟩
theorem zdG.len {ws:List (Str × V)} {fs:List (Str × Fd)} (h:zdG K G ι H ws fs):ws.length=fs.length:=(zcm.mp h).1
theorem FdOk.ownC {v:V} {fd:Fd} {c:Cell} (h:FdOk K G ι H v fd) (hc:fd.cell=some c):∃ b,v = .ref b∧b ∉ ι∧(∃ o,H b=some o)∧ze8 K G ι H b c:=by
 cases fd with
 | val a=>cases hc
 | lst ds=>cases hc;obtain ⟨b,xs,h1,h2,h3,h4,h5⟩:=h;exact ⟨b,h1,h3,⟨_,h4⟩,h2,xs,h4,h5⟩
 | dct kvs=>cases hc;obtain ⟨b,ws,h1,h2,h3,h4,h5,h6⟩:=h;exact ⟨b,h1,h3,⟨_,h4⟩,h2,ws,h4,h5,h6⟩
theorem FdOk.ofC {b:Addr} {fd:Fd} {c:Cell} (hc:fd.cell=some c) (hb:b ∉ ι) (h:ze8 K G ι H b c):FdOk K G ι H (.ref b) fd:=by
 cases fd with
 | val a=>cases hc
 | lst ds=>cases hc;obtain ⟨h1,xs,h2,h3⟩:=h;exact ⟨b,xs,rfl,h1,hb,h2,h3⟩
 | dct kvs=>cases hc;obtain ⟨h1,ws,h2,h3,h4⟩:=h;exact ⟨b,ws,rfl,h1,hb,h2,h3,h4⟩
theorem Fd.zuc {fd:Fd} {c:Cell} (hc:fd.cell=some c):fd.own=true:=by cases fd <;> first | rfl | cases hc
theorem Fd.zph {fd:Fd} {c:Cell} (hc:fd.cell=some c):c.noOwn=true:=by cases fd <;> cases hc <;> rfl
theorem FdOk.lend {b:Addr} {v:V} {fd:Fd} (h:FdOk K G ι H v fd) (hb:fd.own=true→v ≠ .ref b):FdOk K G (ι ++ [b]) H v fd:=by
 cases fd with
 | val a=>exact Den.ext (Ext.cell b) h
 | lst ds =>
  obtain ⟨b',xs,h1,h2,h3,h4,h5⟩:=h
  exact ⟨b',xs,h1,h2,by simp;exact ⟨h3,fun e=>hb rfl (by rw [h1,e])⟩,h4,h5.ext (Ext.cell b)⟩
 | dct kvs =>
  obtain ⟨b',ws,h1,h2,h3,h4,h5,h6⟩:=h
  exact ⟨b',ws,h1,h2,by simp;exact ⟨h3,fun e=>hb rfl (by rw [h1,e])⟩,h4,h5,h6.ext (Ext.cell b)⟩
theorem Wd.unfold {s:Nat} {cls f:Str} {fs:List (Str × Fd)} {fd:Fd} {c:Cell} (w:Wd K G ι Ω H) (hs:Ω[s]? = some (.ins cls fs)) (hf:fs.lookup f=some fd) (hc:fd.cell=some c) :
  ∃ b,Wd K G (ι ++ [b]) (Ω.set s (.ins cls (putD f (.val (.cel Ω.length)) fs)) ++ [c]) H:=by
 obtain ⟨a,ha⟩:=w.addr hs
 obtain ⟨g,C,dx,ws,h0,h1,h2⟩:=w.cel s _ a hs ha
 obtain ⟨i0,e1,e2⟩:=zhp hf
 obtain ⟨q1,q2⟩:=zcm.mp h2
 have hi0:i0 < fs.length:=(List.getElem?_eq_some_iff.mp e1).1
 obtain ⟨⟨k0,v0⟩,e3⟩ : ∃ p,ws[i0]? = some p:=⟨ws[i0]'(by omega),List.getElem?_eq_getElem _⟩
 obtain ⟨rfl,o0⟩:=q2 i0 k0 v0 f fd e3 e1
 obtain ⟨b,rfl,hb,⟨o,ho⟩,hC⟩:=o0.ownC hc
 have own0:zdB H ι Ω s i0 b:=⟨a,cls,fs,C,dx,ws,_,_,fd,ha,hs,h1,e1,Fd.zuc hc,e3⟩
 have hsl:s < Ω.length:=(List.getElem?_eq_some_iff.mp hs).1
 have hι:∀ k,k < Ω.length→(ι ++ [b])[k]? = ι[k]?:=fun k hk=>List.getElem?_append_left (by rw [w.len];exact hk)
 have hΩ:∀ k,k < Ω.length→(Ω.set s (.ins cls (putD k0 (.val (.cel Ω.length)) fs)) ++ [c])[k]? = (Ω.set s (.ins cls (putD k0 (.val (.cel Ω.length)) fs)))[k]?:=fun k hk=>List.getElem?_append_left (by simpa using hk)
 refine ⟨b,w.sub,?_,by simp [w.len],fun x hx=>?_,fun k c' a' z1 z2=>?_,fun b' k i k' i' z1 z2=>?_⟩
 ·rw [List.nodup_append]
  exact ⟨w.inj,by simp,fun x hx y hy=>by simp at hy;subst hy;exact fun e=>hb (e ▸ hx)⟩
 ·rcases List.mem_append.mp hx with h | h
  ·exact w.live x h
  ·simp at h;subst h;exact ⟨o,ho⟩
 ·by_cases hk:k < Ω.length
  ·rw [hι k hk] at z2
   rw [hΩ k hk] at z1
   by_cases hks:k=s
   ·subst hks
    rw [List.getElem?_set_self hsl] at z1
    cases z1
    rw [ha] at z2;cases z2
    refine ⟨g,C,dx,ws,h0,h1,zcm.mpr ⟨by rw [e2];simpa using q1,fun j h v g' fd' y1 y2=>?_⟩⟩
    rw [e2] at y2
    by_cases hj:j=i0
    ·subst hj
     rw [List.getElem?_set_self hi0] at y2
     cases y2
     rw [e3] at y1;cases y1
     refine ⟨rfl,?_⟩
     simp only [FdOk,Den]
     exact ⟨b,rfl,by rw [← w.len];simp⟩
    ·rw [List.getElem?_set_ne (Ne.symm hj)] at y2
     obtain ⟨r1,r2⟩:=q2 j h v g' fd' y1 y2
     refine ⟨r1,r2.lend fun ow ev=>hj ?_⟩
     subst ev
     exact (w.sep b _ j _ i0 ⟨a,cls,fs,C,dx,ws,_,_,fd',ha,hs,h1,y2,ow,y1⟩ own0).2
   ·rw [List.getElem?_set_ne (Ne.symm hks)] at z1
    have q:=w.cel k c' a' z1 z2
    cases c' with
    | lst ds=>obtain ⟨y1,xs,y2,y3⟩:=q;exact ⟨y1,xs,y2,y3.ext (Ext.cell b)⟩
    | dct kvs=>obtain ⟨y1,ws',y2,y3,y4⟩:=q;exact ⟨y1,ws',y2,y3,y4.ext (Ext.cell b)⟩
    | ins cls' fs' =>
     obtain ⟨y0,C',dx',ws',y1,y2,y3⟩:=q
     obtain ⟨p1,p2⟩:=zcm.mp y3
     refine ⟨y0,C',dx',ws',y1,y2,zcm.mpr ⟨p1,fun j h v g' fd' y4 y5=>?_⟩⟩
     obtain ⟨r1,r2⟩:=p2 j h v g' fd' y4 y5
     refine ⟨r1,r2.lend fun ow ev=>hks ?_⟩
     subst ev
     exact (w.sep b k j s i0 ⟨a',cls',fs',C',dx',ws',_,_,fd',z2,z1,y2,y5,ow,y4⟩ own0).1
    | tab x pos qual=>exact q
    | dead=>trivial
  ·have hk2:k=Ω.length:=by
    have:=(List.getElem?_eq_some_iff.mp z1).1
    simp at this;omega
   subst hk2
   rw [← w.len] at z2
   simp at z2
   subst z2
   simp at z1
   subst z1
   cases fd with
   | val x=>cases hc
   | lst ds=>cases hc;obtain ⟨y1,xs,y2,y3⟩:=hC;exact ⟨y1,xs,y2,y3.ext (Ext.cell b)⟩
   | dct kvs=>cases hc;obtain ⟨y1,ws',y2,y3,y4⟩:=hC;exact ⟨y1,ws',y2,y3,y4.ext (Ext.cell b)⟩
 ·have back:∀ {k i},zdB H (ι ++ [b]) (Ω.set s (.ins cls (putD k0 (.val (.cel Ω.length)) fs)) ++ [c]) k i b'→zdB H ι Ω k i b':=fun {k i} h=>by
   have h0':=h
   obtain ⟨a',cls',fs',C',dx',ws',g',h',fd',y1,y2,y3,y4,y5,y6⟩:=h
   by_cases hk:k < Ω.length
   ·rw [hι k hk] at y1
    rw [hΩ k hk] at y2
    by_cases hks:k=s
    ·subst hks
     rw [List.getElem?_set_self hsl] at y2
     cases y2
     rw [ha] at y1;cases y1
     rw [h1] at y3;cases y3
     rw [e2] at y4
     by_cases hj:i=i0
     ·subst hj
      rw [List.getElem?_set_self hi0] at y4
      cases y4
      cases y5
     ·rw [List.getElem?_set_ne (Ne.symm hj)] at y4
      exact ⟨a,_,fs,C,dx,ws,g',h',fd',ha,hs,h1,y4,y5,y6⟩
    ·rw [List.getElem?_set_ne (Ne.symm hks)] at y2
     exact ⟨a',cls',fs',C',dx',ws',g',h',fd',y1,y2,y3,y4,y5,y6⟩
   ·have hk2:k=Ω.length:=by
     have:=(List.getElem?_eq_some_iff.mp y2).1
     simp at this;omega
    subst hk2
    exact (h0'.no (by simp) (Fd.zph hc)).elim
  exact w.sep b' k i k' i' (back z1) (back z2)
theorem ClFs.get {n:Nat}:∀ {fs:List (Str × Fd)} {i:Nat} {p:Str × Fd},ClFs n fs→fs[i]? = some p→ClF n p.2
 | [],_,_,_,h=>by simp at h
 | _ :: _,0,_,c,h=>by simp at h;subst h;exact c.1
 | _ :: fs,i + 1,_,c,h=>ClFs.get (fs:=fs) c.2 (by simpa using h)
theorem Wd.fold {s:Nat} {cls f:Str} {fs:List (Str × Fd)} {fd:Fd} {c:Cell} {Ωa:Sto} (w:Wd K G ι (Ωa ++ [c]) H) (hs:Ωa[s]? = some (.ins cls fs)) (hf:fs.lookup f=some (.val (.cel Ωa.length))) (hc:fd.cell=some c)
  (hk:∀ k c',k ≠ s→Ωa[k]? = some c'→ClC Ωa.length c') (hfs:ClFs Ωa.length (putD f fd fs)):Wd K G (ι.take Ωa.length) (Ωa.set s (.ins cls (putD f fd fs))) H:=by
 have hsl:s < Ωa.length:=(List.getElem?_eq_some_iff.mp hs).1
 have hlen:ι.length=Ωa.length + 1:=by rw [w.len];simp
 have hΩ:∀ k,k < Ωa.length→(Ωa ++ [c])[k]? = Ωa[k]?:=fun k hk=>List.getElem?_append_left hk
 have hι:∀ k,k < Ωa.length→(ι.take Ωa.length)[k]? = ι[k]?:=fun k hk=>by rw [List.getElem?_take,if_pos hk]
 obtain ⟨b,hb⟩ : ∃ b,ι[Ωa.length]? = some b:=⟨ι[Ωa.length]'(by omega),List.getElem?_eq_getElem _⟩
 have eι:ι=ι.take Ωa.length ++ [b]:=by
  have:=List.take_append_getElem (l:=ι) (i:=Ωa.length) (by omega)
  rw [List.getElem?_eq_getElem (show Ωa.length < ι.length by omega)] at hb
  cases hb
  rw [List.take_append_getElem,List.take_of_length_le (by omega)]
 have hbn:b ∉ ι.take Ωa.length:=fun z=>by
  have nd:=w.inj
  rw [eι,List.nodup_append] at nd
  exact nd.2.2 b z b (by simp) rfl
 have sub:∀ x,x ∉ ι→x ∉ ι.take Ωa.length:=fun x hx z=>hx (List.mem_of_mem_take z)
 have ha:∃ a,ι[s]? = some a:=w.addr (show (Ωa ++ [c])[s]? = some (.ins cls fs) by rw [hΩ s hsl];exact hs)
 obtain ⟨a,ha⟩:=ha
 obtain ⟨g,C,dx,ws,h0,h1,h2⟩:=w.cel s _ a (by rw [hΩ s hsl];exact hs) ha
 obtain ⟨i0,e1,e2⟩:=zhp hf
 obtain ⟨q1,q2⟩:=zcm.mp h2
 have hi0:i0 < fs.length:=(List.getElem?_eq_some_iff.mp e1).1
 have hcb:=w.cel Ωa.length c b (by simp) hb
 refine ⟨w.sub,w.inj.sublist (List.take_sublist ..),by simp [hlen],fun x hx=>w.live x (List.mem_of_mem_take hx),fun k c' a' z1 z2=>?_,fun b' k i k' i' z1 z2=>?_⟩
 ·have hkl:k < Ωa.length:=by simpa using (List.getElem?_eq_some_iff.mp z1).1
  rw [hι k hkl] at z2
  by_cases hks:k=s
  ·subst hks
   rw [List.getElem?_set_self hsl] at z1
   cases z1
   rw [ha] at z2;cases z2
   refine ⟨g,C,dx,ws,h0,h1,zcm.mpr ⟨by rw [e2];simpa using q1,fun j h v g' fd' y1 y2=>?_⟩⟩
   have cl':ClF Ωa.length fd':=hfs.get y2
   rw [e2] at y2
   by_cases hj:j=i0
   ·subst hj
    rw [List.getElem?_set_self hi0] at y2
    cases y2
    obtain ⟨r1,r2⟩:=q2 j h v _ _ y1 e1
    refine ⟨r1,?_⟩
    simp only [FdOk,Den] at r2
    obtain ⟨b2,rfl,hb2⟩:=r2
    rw [hb] at hb2;cases hb2
    exact FdOk.ofC hc hbn (hcb.cut hι sub (by cases fd <;> cases hc <;> exact cl'))
   ·rw [List.getElem?_set_ne (Ne.symm hj)] at y2
    obtain ⟨r1,r2⟩:=q2 j h v g' fd' y1 y2
    exact ⟨r1,r2.cut hι sub cl'⟩
  ·rw [List.getElem?_set_ne (Ne.symm hks)] at z1
   exact (w.cel k c' a' (by rw [hΩ k hkl];exact z1) z2).cut hι sub (hk k c' hks z1)
 ·
  have back:∀ {k i},zdB H (ι.take Ωa.length) (Ωa.set s (.ins cls (putD f fd fs))) k i b'→(zdB H ι (Ωa ++ [c]) k i b'∧b' ∉ ι)∨(k=s∧i=i0∧b'=b):=fun {k i} h=>by
   obtain ⟨a',cls',fs',C',dx',ws',g',h',fd',y1,y2,y3,y4,y5,y6⟩:=h
   have hkl:k < Ωa.length:=by simpa using (List.getElem?_eq_some_iff.mp y2).1
   rw [hι k hkl] at y1
   have out:∀ {cls' fs' ws' C' dx' fd' g' h'},(Ωa ++ [c])[k]? = some (.ins cls' fs')→H a'=some (.ins C' dx' ws')→fs'[i]? = some (g',fd')→fd'.own=true→ws'[i]? = some (h',V.ref b')→b' ∉ ι:=fun {_ _ _ _ _ fdx _ _} x1 x2 x3 x4 x5=>by
    obtain ⟨_,_,_,ws2,_,p1,p2⟩:=w.cel k _ a' x1 y1
    rw [x2] at p1;cases p1
    obtain ⟨_,r⟩:=(zcm.mp p2).2 i _ _ _ _ x5 x3
    cases fdx with
    | val x=>cases x4
    | lst ds=>obtain ⟨b3,_,t1,_,t2,_⟩:=r;cases t1;exact t2
    | dct kvs=>obtain ⟨b3,_,t1,_,t2,_⟩:=r;cases t1;exact t2
   by_cases hks:k=s
   ·subst hks
    rw [List.getElem?_set_self hsl] at y2
    cases y2
    rw [ha] at y1;cases y1
    rw [h1] at y3;cases y3
    rw [e2] at y4
    by_cases hj:i=i0
    ·subst hj
     right
     rw [List.getElem?_set_self hi0] at y4
     cases y4
     obtain ⟨r1,r2⟩:=q2 i _ _ _ _ y6 e1
     simp only [FdOk,Den] at r2
     obtain ⟨b2,eb,hb2⟩:=r2
     rw [hb] at hb2;cases hb2
     cases eb
     exact ⟨rfl,rfl,rfl⟩
    ·rw [List.getElem?_set_ne (Ne.symm hj)] at y4
     have hs':(Ωa ++ [c])[k]? = some (.ins cls fs):=by rw [hΩ k hkl];exact hs
     exact .inl ⟨⟨a,_,fs,C,dx,ws,g',h',fd',ha,hs',h1,y4,y5,y6⟩,out hs' h1 y4 y5 y6⟩
   ·rw [List.getElem?_set_ne (Ne.symm hks)] at y2
    have hs':(Ωa ++ [c])[k]? = some (.ins cls' fs'):=by rw [hΩ k hkl];exact y2
    exact .inl ⟨⟨a',cls',fs',C',dx',ws',g',h',fd',y1,hs',y3,y4,y5,y6⟩,out hs' y3 y4 y5 y6⟩
  have hbι:b ∈ ι:=List.mem_of_getElem? hb
  rcases back z1 with ⟨x1,x2⟩ | ⟨x1,x2,x3⟩ <;> rcases back z2 with ⟨y1,y2⟩ | ⟨y1,y2,y3⟩
  ·exact w.sep b' k i k' i' x1 y1
  ·subst y3;exact absurd hbι x2
  ·subst x3;exact absurd hbι y2
  ·exact ⟨x1.trans y1.symm,x2.trans y2.symm⟩
end
end V2
namespace V2
open PySem PySem.Spec PyProof.Rows L2
def Unf (s:Nat) (f:Str) (Ω Ω1:Sto):Prop:=∃ cls fs fd c,Ω[s]? = some (.ins cls fs)∧fs.lookup f=some fd∧fd.cell=some c∧Ω1=Ω.set s (.ins cls (putD f (.val (.cel Ω.length)) fs)) ++ [c]
def Folds (s:Nat) (f:Str) (n:Nat) (Ω2 Ω':Sto):Prop:=∃ Ωa c cls fs fd,Ω2=Ωa ++ [c]∧Ωa.length=n∧Ωa[s]? = some (.ins cls fs)∧fs.lookup f=some (.val (.cel n))∧fd.cell=some c ∧
 (∀ k c',k ≠ s→Ωa[k]? = some c'→ClC n c')∧ClFs n (putD f fd fs)∧Ω'=Ωa.set s (.ins cls (putD f fd fs))
structure ClS (Ω:Sto) (ρ:Ev):Prop where
 cel:∀ (k:Nat) (c:Cell),Ω[k]? = some c→ClC Ω.length c
 env:∀ (i:Nat) (d:A),ρ[i]? = some (some d)→Cl Ω.length d
section
variable {K:PySem.W.Frag} {G H:Hp} {ι:List Addr} {Ω Ω1 Ω2 Ω':Sto} {σ:L2.St} {ρ:Ev} {W:WX} {s:Nat} {f:Str}
theorem Wd.clS (w:Wd K G ι Ω H) (r:EnvR K G ι σ ρ):ClS Ω ρ where
 cel:=fun k c h=>by
  obtain ⟨a,ha⟩:=w.addr h
  have:=(w.cel k c a h ha).cl
  rwa [w.len] at this
 env:=fun i d h=>by
  obtain ⟨v,_,q⟩:=r.2 i d h
  have:=q.cl
  rwa [w.len] at this
theorem Wd.unf (w:Wd K G ι Ω H) (h:Unf s f Ω Ω1):∃ b,Wd K G (ι ++ [b]) Ω1 H:=by
 obtain ⟨cls,fs,fd,c,h1,h2,h3,rfl⟩:=h
 exact w.unfold h1 h2 h3
theorem zou {G':Hp} {ι':List Addr} {b:Addr} {n:Nat} (hl:ι.length=n) (e:Ext G (ι ++ [b]) G' ι'):Ext G ι G' (ι'.take n):=⟨e.same,fun k x h=>by
 have hk:=(List.getElem?_eq_some_iff.mp h).1
 rw [List.getElem?_take,if_pos (by omega)]
 exact e.pre k x (by rw [List.getElem?_append_left hk];exact h)⟩
theorem Wd.zyl {n:Nat} (w:Wd K G ι Ω2 H) (h:Folds s f n Ω2 Ω'):Wd K G (ι.take n) Ω' H:=by
 obtain ⟨Ωa,c,cls,fs,fd,rfl,rfl,h3,h4,h5,h6,h7,rfl⟩:=h
 exact w.fold h3 h4 h5 h6 h7
theorem zot {ι':List Addr} {n:Nat}:∀ k,k < n→(ι'.take n)[k]? = ι'[k]?:=fun k hk=>by rw [List.getElem?_take,if_pos hk]
theorem zrJ {α β:Type} {rel:Rl α β} {cl:Nat→α→Prop} (hcut:∀ (G:Hp) (ι ι':List Addr) (n:Nat) (v:β) (a:α),(∀ k,k < n→ι[k]? = ι'[k]?)→rel G ι' v a→cl n a→rel G ι v a)
  {b:Addr} {Q:β→Hp→Prop} {a:α} (w:Wd K G ι Ω H) (hF:Folds s f Ω.length Ω2 Ω') (ha:cl Ω.length a) (h:Post K rel W G ι σ Q (some (.ok a,Ω'))):Post K rel W G (ι ++ [b]) σ Q (some (.ok a,Ω2)):=by
 intro v H' G' ι' e w' d
 exact h v H' G' (ι'.take Ω.length) (zou w.len e) (w'.zyl hF) (hcut _ _ _ _ _ _ zot d ha)
theorem zo6 {σ':L2.St} {ρ':Ev} {G':Hp} {ι':List Addr} {n:Nat} (r:EnvR K G' ι' σ' ρ') (hc:∀ (i:Nat) (d:A),ρ'[i]? = some (some d)→Cl n d):EnvR K G' (ι'.take n) σ' ρ' :=
 ⟨r.1,fun i d h=>let ⟨v,h1,h2⟩:=r.2 i d h; ⟨v,h1,h2.cut zot (hc i d h)⟩⟩
theorem zqc {b:Addr} {D:Ends} {ρ':Ev} (w:Wd K G ι Ω H) (hF:Folds s f Ω.length Ω2 Ω') (hc:∀ (i:Nat) (d:A),ρ'[i]? = some (some d)→Cl Ω.length d) (h:zb6 K W G ι D (some (.nx,ρ',Ω'))):zb6 K W G (ι ++ [b]) D (some (.nx,ρ',Ω2)):=by
 intro σ' H' G' ι' e w' r'
 exact h σ' H' G' (ι'.take Ω.length) (zou w.len e) (w'.zyl hF) (zo6 r' hc)
end
section
variable {X:Cx} {W:WX} {e:Expr} {tg:Expr} {st:Stmt} {g d:Ev→Mo A} {gb db:Ev→Mo Bool} {gs ds:MS} {gt dt:A→MS}
theorem znA (h:VE X W e g) (hd:∀ ρ Ω r,ClS Ω ρ→d ρ Ω=some r→∃ s f Ω1 a Ω2,Unf s f Ω Ω1∧g ρ Ω1=some (.ok a,Ω2)∧Folds s f Ω.length Ω2 r.2∧Cl Ω.length a∧r.1 = .ok a):VE X W e d:=by
 obtain ⟨t,p,sm⟩:=h
 refine ⟨t,p,fun G ι Ω H σ ρ Q w r h=>?_⟩
 cases e:d ρ Ω with
 | none=>rw [e] at h;exact h.elim
 | some q =>
  obtain ⟨s,f,Ω1,a,Ω2,h1,h2,h3,h4,h5⟩:=hd ρ Ω q (w.clS r) e
  obtain ⟨b,wb⟩:=w.unf h1
  obtain ⟨q1,q2⟩:=q
  simp only at h3 h5
  subst h5
  rw [e] at h
  refine sm G (ι ++ [b]) Ω1 H σ ρ Q wb (r.ext (Ext.cell b)) ?_
  rw [h2]
  exact zrJ (rel:=Den X.K) (cl:=Cl) (fun _ _ _ _ _ _ h1 h2 h3=>h2.cut h1 h3) w h3 h4 h
theorem zwu (h:VS X W st gs) (hd:∀ ρ Ω r,ClS Ω ρ→ds ρ Ω=some r→∃ s f Ω1 Ω2,Unf s f Ω Ω1∧gs ρ Ω1=some (.nx,r.2.1,Ω2)∧Folds s f Ω.length Ω2 r.2.2∧(∀ (i:Nat) (d:A),r.2.1[i]? = some (some d)→Cl Ω.length d)∧r.1 = .nx):VS X W st ds:=by
 obtain ⟨t,p,sm⟩:=h
 refine ⟨t,p,fun G ι Ω H σ ρ D w r h=>?_⟩
 cases e:ds ρ Ω with
 | none=>rw [e] at h;exact h.elim
 | some q =>
  obtain ⟨s,f,Ω1,Ω2,h1,h2,h3,h4,h5⟩:=hd ρ Ω q (w.clS r) e
  obtain ⟨b,wb⟩:=w.unf h1
  obtain ⟨q1,q2,q3⟩:=q
  simp only at h2 h3 h4 h5
  subst h5
  rw [e] at h
  refine sm G (ι ++ [b]) Ω1 H σ ρ D wb (r.ext (Ext.cell b)) ?_
  rw [h2]
  exact zqc w h3 h4 h
end
def zaI (K:PySem.W.Frag) (cs:List Str) (f:Str):Prop:=∀ cls ∈ cs,∃ C,PySem.W.nsIn K mainGlobals cls=some (some (.ref C))∧Cls K C∧zjG K C f
@[simp] def gFld (cs:List Str) (f:Str) (a:A):Mo A:=fun Ω=>match a with
 | .cel s=>match Ω[s]? with
  | some (.ins cls fs)=>if cls ∈ cs then match fs.lookup f with
   | some (.val b)=>some (.ok b,Ω)
   | _=>none else none
  | _=>none
 | _=>none
@[simp] def vFld (cs:List Str) (f:Str) (fe:Ev→Mo A):Ev→Mo A:=fun ρ=>mb (fe ρ) (gFld cs f)
@[simp] def zjF (cs:List Str) (f:Str) (fo fv:Ev→Mo A):MS:=fun ρ=>sM (fv ρ) ρ fun b=>sM (fo ρ) ρ fun a Ω=>match a with
 | .cel s=>match Ω[s]? with
  | some (.ins cls fs)=>if cls ∈ cs∧fs.length < 1000 then some (.nx,ρ,Ω.set s (.ins cls (putD f (.val b) fs))) else none
  | _=>none
 | _=>none
section
variable {K:PySem.W.Frag} {G H:Hp} {ι:List Addr} {Ω:Sto}
theorem Wd.ins (w:Wd K G ι Ω H) {s:Nat} {cls:Str} {fs:List (Str × Fd)} {v:V} (h:Ω[s]? = some (.ins cls fs)) (d:Den K G ι v (.cel s)):∃ a C dx,∃ ws:List (Str × V),v = .ref a∧ι[s]? = some a∧G a=none∧PySem.W.nsIn K mainGlobals cls=some (some (.ref C))∧H a=some (.ins C dx ws)∧zdG K G ι H ws fs:=by
 simp only [Den] at d
 obtain ⟨a,rfl,ha⟩:=d
 obtain ⟨g,C,dx,ws,h1,h2,h3⟩:=w.cel s _ a h ha
 exact ⟨a,C,dx,ws,rfl,ha,g,h1,h2,h3⟩
theorem zvg {f:Str} {v:V} {b:A}:∀ {ws:List (Str × V)} {fs:List (Str × Fd)} {i:Nat} {g h:Str} {fd:Fd} {x:V},zdG K G ι H ws fs→(putD f (.val b) fs)[i]? = some (g,fd)→fd.own=true→(putF f v ws)[i]? = some (h,x)→fs[i]? = some (g,fd)∧ws[i]? = some (h,x)
 | [],[],i,g,h,fd,x,_,y,o,_=>by
  cases i with
  | zero=>simp [putD] at y;obtain ⟨_,rfl⟩:=y;cases o
  | succ i=>simp [putD] at y
 | [],_ :: _,_,_,_,_,_,q,_,_,_=>q.elim
 | _ :: _,[],_,_,_,_,_,q,_,_,_=>q.elim
 | (k,u) :: ws,(k',d) :: fs,i,g,h,fd,x,q,y,o,z=>by
  obtain ⟨rfl,q2,q3⟩:=q
  by_cases e:k=f
  ·simp only [putD,putF,if_pos e] at y z
   cases i with
   | zero=>simp at y;obtain ⟨_,rfl⟩:=y;cases o
   | succ i=>exact ⟨by simpa using y,by simpa using z⟩
  ·simp only [putD,putF,if_neg e] at y z
   cases i with
   | zero=>exact ⟨by simpa using y,by simpa using z⟩
   | succ i =>
    have:=zvg (f:=f) (v:=v) (b:=b) (i:=i) q3 (by simpa using y) o (by simpa using z)
    exact ⟨by simpa using this.1,by simpa using this.2⟩
theorem Wd.setF (w:Wd K G ι Ω H) {s:Nat} {cls f:Str} {fs:List (Str × Fd)} {a C dx:Addr} {ws:List (Str × V)} {v:V} {b:A} (h:Ω[s]? = some (.ins cls fs)) (ha:ι[s]? = some a) (hg:G a=none) (h0:PySem.W.nsIn K mainGlobals cls=some (some (.ref C)))
  (h1:H a=some (.ins C dx ws)) (h2:zdG K G ι H ws fs) (d:Den K G ι v b):Wd K G ι (Ω.set s (.ins cls (putD f (.val b) fs))) (upd H a (.ins C dx (putF f v ws))):=by
 have hsl:s < Ω.length:=(List.getElem?_eq_some_iff.mp h).1
 have ho:∀ b o,b ∉ ι→G b=none→H b=some o→b ∉ ι∧G b=none∧upd H a (.ins C dx (putF f v ws)) b=some o:=fun b o x y z=>by
  have nb:b ≠ a:=fun e=>by subst e;exact x (zd9 ha)
  exact ⟨x,y,by rw [zan nb];exact z⟩
 have h2':zdG K G ι (upd H a (.ins C dx (putF f v ws))) ws fs:=h2.map fun _ _ q=>q.mono (Ext.refl _ _) ho
 refine ⟨fun b u q=>?_,w.inj,by simp [w.len],fun b hb=>?_,fun j c' b z1 z2=>?_,fun b2 j i j' i' z1 z2=>?_⟩
 ·have e:b ≠ a:=fun e=>by subst e;rw [hg] at q;cases q
  rw [zan e];exact w.sub _ _ q
 ·by_cases e:b=a
  ·subst e;exact ⟨_,zay⟩
  ·rw [zan e];exact w.live b hb
 ·by_cases hj:j=s
  ·subst hj
   rw [List.getElem?_set_self hsl] at z1
   cases z1
   rw [ha] at z2;cases z2
   exact ⟨hg,C,dx,_,h0,zay,h2'.put d⟩
  ·rw [List.getElem?_set_ne (Ne.symm hj)] at z1
   have hne:b ≠ a:=fun e=>by subst e;exact hj (zer w.inj z2 ha)
   exact (w.cel j c' b z1 z2).mono (Ext.refl _ _) rfl (zan hne) ho
 ·have back:∀ {j i},zdB (upd H a (.ins C dx (putF f v ws))) ι (Ω.set s (.ins cls (putD f (.val b) fs))) j i b2→zdB H ι Ω j i b2:=fun {j i} q=>by
   obtain ⟨a',cls',fs',C',dx',ws',g',h',fd',y1,y2,y3,y4,y5,y6⟩:=q
   by_cases hj:j=s
   ·subst hj
    rw [List.getElem?_set_self hsl] at y2
    cases y2
    rw [ha] at y1;cases y1
    rw [zay] at y3;cases y3
    have pi:=zvg h2 y4 y5 y6
    exact ⟨a,cls,fs,C,dx,ws,g',h',fd',ha,h,h1,pi.1,y5,pi.2⟩
   ·rw [List.getElem?_set_ne (Ne.symm hj)] at y2
    have hne:a' ≠ a:=fun e=>by subst e;exact hj (zer w.inj y1 ha)
    rw [zan hne] at y3
    exact ⟨a',cls',fs',C',dx',ws',g',h',fd',y1,y2,y3,y4,y5,y6⟩
  exact w.sep b2 j i j' i' (back z1) (back z2)
end
section
variable {X:Cx} {W:WX} {e o value:Expr} {f:Str} {cs:List Str} {pos pos':Pos} {fe fo fv:Ev→Mo A}
theorem zc4 (h:VE X W e fe) (hc:zaI X.K cs f) (hb:attributeBase e f X.env (eval e X.env)=eval e X.env:=by rfl):VE X W (.Attribute e f pos) (vFld cs f fe):=by
 obtain ⟨t,p,s⟩:=h
 refine ⟨_,zy9 p hb,fun G ι Ω H σ ρ Q w r h=>?_⟩
 refine s G ι Ω H σ ρ _ w r (Post.mb h fun a Ω1 v H1 G1 ι1 x1 w1 d1 h1=>?_)
 unfold gFld at h1
 cases a with
 | cel k =>
  simp only at h1
  cases e2:Ω1[k]? with
  | none=>rw [e2] at h1;exact h1.elim
  | some c =>
   rw [e2] at h1
   cases c with
   | ins cls fs =>
    simp only at h1
    by_cases hcl:cls ∈ cs
    ·rw [if_pos hcl] at h1
     cases e3:fs.lookup f with
     | none=>rw [e3] at h1;exact h1.elim
     | some fd =>
      rw [e3] at h1
      cases fd with
      | val b =>
       obtain ⟨a,C,dx,ws,rfl,ha,hg,h0,hH,hF⟩:=w1.ins e2 d1
       obtain ⟨C',q0,q1,q2⟩:=hc cls hcl
       rw [h0] at q0;cases q0
       obtain ⟨u,l,du⟩:=hF.look e3
       exact ⟨a,C,dx,ws,u,rfl,hH,q1,q2,l,h1 u H1 G1 ι1 (Ext.refl _ _) w1 du⟩
      | _=>exact h1.elim
    ·rw [if_neg hcl] at h1;exact h1.elim
   | _=>exact h1.elim
 | _=>exact h1.elim
theorem ziz (ho:VE X W o fo) (hv:VE X W value fv) (hc:zaI X.K cs f) (hs:swapsWith value (some (.Attribute o f pos')) pos.line X.env=pure false:=by rfl):VS X W (.Assign [.Attribute o f pos'] value pos) (zjF cs f fo fv):=by
 obtain ⟨t,p,s⟩:=ho
 obtain ⟨u,q,z⟩:=hv
 refine ⟨_,zxL p q hs,fun G ι Ω H σ ρ D w r h=>?_⟩
 refine z G ι Ω H σ ρ _ w r (zb6.sM h r fun b Ω1 y H1 G1 ι1 x1 w1 d1 h1=>?_)
 refine s G1 ι1 Ω1 H1 σ ρ _ w1 (r.ext x1) (zb6.sM h1 (r.ext x1) fun a Ω2 v H2 G2 ι2 x2 w2 d2 h2=>?_)
 cases a with
 | cel k =>
  simp only at h2
  cases e2:Ω2[k]? with
  | none=>rw [e2] at h2;exact h2.elim
  | some c =>
   rw [e2] at h2
   cases c with
   | ins cls fs =>
    simp only at h2
    by_cases hcl:cls ∈ cs∧fs.length < 1000
    ·rw [if_pos hcl] at h2
     obtain ⟨a,C,dx,ws,rfl,ha,hg,h0,hH,hF⟩:=w2.ins e2 d2
     obtain ⟨C',q0,q1,q2⟩:=hc cls hcl.1
     rw [h0] at q0;cases q0
     refine ⟨a,C,dx,ws,rfl,hH,q1,q2,by rw [hF.len];exact hcl.2,?_⟩
     exact zmB (w2.setF e2 ha hg h0 hH hF (d1.ext x2)) ((r.ext x1).ext x2) h2
    ·rw [if_neg hcl] at h2;exact h2.elim
   | _=>exact h2.elim
 | _=>exact h2.elim
end
end V2
namespace L2
open PySem PySem.Spec PyProof.Rows
section
variable {X:Cx} {W:WX} {k:Nat} {f C:Addr} {fd:FuncData} {ps:List Str} {sp:Sp} {dvs:List V} {ds:List Value} {x m:Str} {p pos apos:Pos} {e o:Expr} {es:List Expr} {ta:TE} {t:TA}
theorem zsh {pins:List (Addr × Obj)} {σ:St} {H:Hp} {s:Shared} {Q:VK} {us:List Value} {vs:List V} (T:zgG X W) (F:FnOk X.prog X.w X.K X.mg X.base (CXE X.prog X.w) k f fd ps sp) (hr:Room k X.A) (hb:Binds X.K fd ps ds) (hd:Vals dvs ds)
  (I:Inv X pins σ H s) (r:Vals vs us) (h:sp (vs ++ dvs) H Q fun cls dx H'=>W σ cls dx H'):wpAny (model X.prog X.w) X.A (call (.ref f) us) (EP X pins σ Q) X.xe s:=by
 have r2:Vals (vs ++ dvs) (us ++ ds):=r.append hd
 have hl:(us ++ ds).length=ps.length:=by rw [← r2.length];exact F.len _ _ _ _ h
 refine wpAny_call (codeAny_mono (F.run X.A X.stack s H ⟨us,[]⟩ (us ++ ds) (vs ++ dvs) Q _ hr I.env0 (hb s us I.kIn hl) r2 h) fun r s' hq=>?_)
 cases r with
 | error ev =>
  obtain ⟨a,cls,dx,H',rfl,os,bare,un,hok,ex,q'⟩:=hq
  have I2:=(I.zxa os un hok bare (fun b z=>absurd z (by simp))).zwz
  exact T.to _ _ ⟨σ,H',a,cls,dx,rfl,I2,(ex.first I T.ex).any,q'⟩
 | ok fl =>
  cases fl with
  | ret u=>exact I.after hq
  | next=>exact False.elim hq
  | brk=>exact False.elim hq
  | cont=>exact False.elim hq
def zss (X:Cx) (W:WX) (m:Str) (ta:TE) (t:TA):TE:=fun σ H Q=>ta σ H fun x H1=>∃ a C dx fs k f fd ps ds dvs sp,x = .ref a∧H1 a=some (.ins C dx fs)∧fs.lookup m=none∧Cls X.K C∧Meth X.K C m f ∧
 FnOk X.prog X.w X.K X.mg X.base (CXE X.prog X.w) k f fd ps sp∧Room k X.A∧Binds X.K fd ps ds∧Vals dvs ds∧t σ H1 fun vs H2=>sp (.ref a :: vs ++ dvs) H2 Q fun cls dx H'=>W σ cls dx H'
theorem zty {pl:Sem Bool} (T:zgG X W) (he:PE X o ta) (ha:PA X (e :: es) t)
  (hst:starEach (e :: es) X.env=(false,eval e X.env) :: starEach es X.env:=by rfl) (hpl:(backTo pos (starEach es X.env)).any (·.1)=false:=by rfl)
  (ht:eval (.Call (.Attribute o m apos) (e :: es) [] pos) X.env=(do
   let ov ← eval o X.env
   standAt apos.atName
   let (f,first) ← holding [ov] (getMethod ov m pl)
   callWith pos f first (backTo pos (starEach (e :: es) X.env)) (backToKw pos (keywordEach [] X.env))):=by rfl) :
  PE X (.Call (.Attribute o m apos) (e :: es) [] pos) (zss X W m ta t):=by
 intro pins s σ H Q I h
 refine PySem.W.methodCall_KW (pl:=pl) (thn (he pins s σ H _ I h) fun u s1 ⟨x,H1,I1,rx,a,C,dx,fs,k,f,fd,ps,ds,dvs,sp,ex,ea,l,c,hm,F,hr,hb,hd,q⟩=>?_) ht
 subst ex
 obtain rfl:u=Value.ref a:=rx
 refine zkW I1 ea c hm l ?_
 refine PySem.W.callWith_K (first:=[.ref a]) (h₀:=X.base) I.ok.mod.kin hm.kp (thn (ha pos pins s1 σ H1 _ I1 q) fun us s2 ⟨vs,H2,I2,r,q2⟩=>⟨I2.kIn,?_⟩) hst hpl
 exact zsh (us := .ref a :: us) (vs := .ref a :: vs) T F hr hb hd I2 (.cons rfl r) q2
theorem zrp {pl:Sem Bool} (T:zgG X W) (he:PE X o ta)
  (ht:eval (.Call (.Attribute o m apos) [] [] pos) X.env=(do
   let ov ← eval o X.env
   standAt apos.atName
   let (f,first) ← holding [ov] (getMethod ov m pl)
   callWith pos f first (backTo pos (starEach [] X.env)) (backToKw pos (keywordEach [] X.env))):=by rfl) :
  PE X (.Call (.Attribute o m apos) [] [] pos) (zss X W m ta tNil):=by
 intro pins s σ H Q I h
 refine PySem.W.methodCall_KW (pl:=pl) (thn (he pins s σ H _ I h) fun u s1 ⟨x,H1,I1,rx,a,C,dx,fs,k,f,fd,ps,ds,dvs,sp,ex,ea,l,c,hm,F,hr,hb,hd,q⟩=>?_) ht
 subst ex
 obtain rfl:u=Value.ref a:=rx
 refine zkW I1 ea c hm l ?_
 exact PySem.W.callWith_K0 (first:=[.ref a]) I1.kIn hm.kp (zsh (us:=[.ref a]) (vs:=[.ref a]) T F hr hb hd I1 (.cons rfl .nil) q)
structure zzc (K:PySem.W.Frag) (R:Addr) (m:Str) (f:Addr):Prop where
 reads:PySem.W.readsIn K R (.type "type")=true
 find:PySem.W.findCls K (.ref R) (.type "type") m=some (.val (.ref f))
 ga:PySem.W.specialIn K (.ref R) "__getattribute__" = some (some (.builtin "type.__getattribute__"))
 kp:PySem.W.keepIn K (.ref f)=true
end
end L2
namespace V2
open PySem PySem.Spec PyProof.Rows L2
@[simp] def zce (n:Nat) (das:List A) (F:List A→Mo A):List A→Mo A:=fun as=>if as.length + das.length=n then F (as ++ das) else stuck
structure zbv (P:Program) (w:World) (K:PySem.W.Frag) (mg:Str→Option Value) (base:Heap) (cls m:Str) (k:Nat) (n:Nat) (das:List A) (F:List A→Mo A):Prop where
 ex:∃ C f fd ps ds dvs,PySem.W.nsIn K mainGlobals cls=some (some (.ref C))∧Cls K C∧Meth K C m f∧ps.length=n∧FnOk P w K mg base (CXE P w) k f fd ps (spV K ps.length F)∧Binds K fd ps ds∧Vals dvs ds∧∀ G ι,DenL K G ι dvs das
@[simp] def zxe (m:Str) (tab:List (Str × (List A→Mo A))) (fs:Mo (List A)) (a:A):Mo A:=fun Ω=>match a with
 | .cel s=>match Ω[s]? with
  | some (.ins cls fs0)=>match tab.lookup cls,fs0.lookup m with
   | some F,none=>mb fs (fun as=>F (.cel s :: as)) Ω
   | _,_=>none
  | _=>none
 | _=>none
@[simp] def zcr (m:Str) (tab:List (Str × (List A→Mo A))) (fo:Ev→Mo A) (fs:Ev→Mo (List A)):Ev→Mo A:=fun ρ=>mb (fo ρ) (zxe m tab (fs ρ))
def TabM (X:Cx) (m:Str) (tab:List (Str × (List A→Mo A))):Prop:=∀ cls F,tab.lookup cls=some F→∃ k n das F0,F=zce n das F0∧Room k X.A∧zbv X.prog X.w X.K X.mg X.base cls m k n das F0
section
variable {X:Cx} {W:WX} {m:Str} {tab:List (Str × (List A→Mo A))} {o e:Expr} {es:List Expr} {fo:Ev→Mo A} {fs:Ev→Mo (List A)} {pos apos:Pos}
theorem TabM.nil:TabM X m []:=fun cls F h=>by simp at h
theorem TabM.cons {cls:Str} {k n:Nat} {das:List A} {F:List A→Mo A} (h:zbv X.prog X.w X.K X.mg X.base cls m k n das F) (hr:Room k X.A) (t:TabM X m tab):TabM X m ((cls,zce n das F) :: tab):=fun c F' q=>by
 by_cases e:c=cls
 ·subst e
  simp [List.lookup] at q
  exact ⟨k,n,das,F,q.symm,hr,h⟩
 ·have hb:(c == cls)=false:=beq_eq_false_iff_ne.mpr e
  simp only [List.lookup,hb] at q
  exact t c F' q
theorem zoY {ta:TE} {t:TA} (htab:TabM X m tab) (s1:Sim X.K (Den X.K) W ta fo) (s2:Sim X.K (DenL X.K) W t fs):Sim X.K (Den X.K) W (zss X W m ta t) (zcr m tab fo fs):=by
 intro G ι Ω H σ ρ Q w r h
 refine s1 G ι Ω H σ ρ _ w r (Post.mb h fun a Ω1 v H1 G1 ι1 x1 w1 d1 h1=>?_)
 unfold zxe at h1
 cases a with
 | cel s =>
  simp only at h1
  cases e2:Ω1[s]? with
  | none=>rw [e2] at h1;exact h1.elim
  | some c =>
   rw [e2] at h1
   cases c with
   | ins cls fs0 =>
    simp only at h1
    cases e3:tab.lookup cls with
    | none=>rw [e3] at h1;exact h1.elim
    | some F =>
     rw [e3] at h1
     cases e4:fs0.lookup m with
     | some _=>rw [e4] at h1;exact h1.elim
     | none =>
      rw [e4] at h1
      obtain ⟨k,n,das,F0,rfl,hr,MV⟩:=htab cls F e3
      obtain ⟨C,f,fd,ps,ds,dvs,hC,hcl,hme,hn,FO,hb,hv,hda⟩:=MV.ex
      obtain ⟨a,C',dx,ws,rfl,ha,hg,h0,hH,hF⟩:=w1.ins e2 d1
      rw [hC] at h0;cases h0
      refine ⟨a,C,dx,ws,k,f,fd,ps,ds,dvs,_,rfl,hH,hF.zym e4,hcl,hme,FO,hr,hb,hv,?_⟩
      refine s2 G1 ι1 Ω1 H1 σ ρ _ w1 (r.ext x1) (Post.mb h1 fun as Ω2 vs H2 G2 ι2 x2 w2 d2 h2=>?_)
      unfold zce at h2
      split at h2
      ·rename_i hl
       have dd:DenL X.K G2 ι2 (.ref a :: vs ++ dvs) (.cel s :: as ++ das):=(DenL.cons (by simp only [Den] at d1 ⊢;obtain ⟨a2,e5,e6⟩:=d1;exact ⟨a2,e5,x2.pre _ _ e6⟩) d2).append (hda _ _)
       refine ⟨?_,G2,ι2,Ω2, .cel s :: as ++ das,w2,dd,zm1 h2 (Ext.refl _ _)⟩
       have:=dd.length
       rw [this,hn]
       simp only [List.length_append,List.length_cons] at hl ⊢
       omega
      ·exact h2.elim
   | _=>exact h1.elim
 | _=>exact h1.elim
theorem zfo {pl:Sem Bool} (T:zgG X W) (htab:TabM X m tab) (ho:VE X W o fo) (ha:VA X W (e :: es) fs)
  (hst:starEach (e :: es) X.env=(false,eval e X.env) :: starEach es X.env:=by rfl) (hpl:(backTo pos (starEach es X.env)).any (·.1)=false:=by rfl)
  (ht:eval (.Call (.Attribute o m apos) (e :: es) [] pos) X.env=(do
   let ov ← eval o X.env
   standAt apos.atName
   let (f,first) ← holding [ov] (getMethod ov m pl)
   callWith pos f first (backTo pos (starEach (e :: es) X.env)) (backToKw pos (keywordEach [] X.env))):=by rfl) :
  VE X W (.Call (.Attribute o m apos) (e :: es) [] pos) (zcr m tab fo fs):=by
 obtain ⟨ta,p1,s1⟩:=ho
 obtain ⟨t,p2,s2⟩:=ha
 exact ⟨_,zty T p1 p2 hst hpl ht,zoY htab s1 s2⟩
theorem zoQ {pl:Sem Bool} (T:zgG X W) (htab:TabM X m tab) (ho:VE X W o fo)
  (ht:eval (.Call (.Attribute o m apos) [] [] pos) X.env=(do
   let ov ← eval o X.env
   standAt apos.atName
   let (f,first) ← holding [ov] (getMethod ov m pl)
   callWith pos f first (backTo pos (starEach [] X.env)) (backToKw pos (keywordEach [] X.env))):=by rfl) :
  VE X W (.Call (.Attribute o m apos) [] [] pos) (zcr m tab fo a0):=by
 obtain ⟨ta,p1,s1⟩:=ho
 refine ⟨_,zrp T p1 ht,zoY htab s1 ?_⟩
 intro G ι Ω H σ ρ Q w r h
 exact h [] H G ι (Ext.refl _ _) w .nil
structure zql (P:Program) (w:World) (K:PySem.W.Frag) (mg:Str→Option Value) (base:Heap) (cls:Str) (k:Nat) (n:Nat) (F:List A→Mo A):Prop where
 ex:∃ C f fd ps,PySem.W.nsIn K mainGlobals cls=some (some (.ref C))∧mg cls=some (.ref C)∧Mk K C f∧ps.length=n∧FnOk P w K mg base (CXE P w) k f fd ps (spV K ps.length F)∧Binds K fd ps []
@[simp] def zqg (cls:Str) (n:Nat) (F:List A→Mo A) (as:List A):Mo A:=fun Ω=>if as.length + 1=n then match F (.cel Ω.length :: as) (Ω ++ [.ins cls []]) with
 | some (.ok .non,Ω2)=>some (.ok (.cel Ω.length),Ω2)
 | _=>none else none
theorem zwn {cls:Str} {k n:Nat} {F:List A→Mo A} {p:Pos} (M:zql X.prog X.w X.K X.mg X.base cls k n F) (hr:Room (k + 1) X.A) (hg:Gl X cls) (ha:VA X W (e :: es) fs)
  (hdb:(cls == ("__debug__" : Str))=false:=by decide) (he:starEach (e :: es) X.env=(false,eval e X.env) :: starEach es X.env:=by rfl) (hpl:(backTo pos (starEach es X.env)).any (·.1)=false:=by rfl) :
  VE X W (.Call (.Name cls p) (e :: es) [] pos) (vCl (zqg cls n F) fs):=by
 obtain ⟨C,f,fd,ps,hC,hm,mk,hn,FO,hb⟩:=M.ex
 obtain ⟨t,p1,s1⟩:=ha
 refine ⟨_,zvX mk (zn1 FO) hr hg hm hb .nil zyA p1 hdb he hpl,fun G ι Ω H σ ρ Q w r h=>?_⟩
 refine s1 G ι Ω H σ ρ _ w r (Post.mb h fun as Ω1 vs H1 G1 ι1 x1 w1 d1 h1=>?_)
 unfold zqg at h1
 by_cases hl:as.length + 1=n
 ·rw [if_pos hl] at h1
  intro x dx hx hdx hne
  have wA:=w1.grow (H':=upd H1 dx (.own x)) (Same.new hdx)
  have hx':upd H1 dx (.own x) x=none:=by rw [zan (Ne.symm hne)];exact hx
  have wB:Wd X.K G1 (ι1 ++ [x]) (Ω1 ++ [.ins cls []]) (upd (upd H1 dx (.own x)) x (.ins C dx [])):=wA.cell hx' ⟨w1.zg9 hx,C,dx,[],hC,zay,trivial⟩
  have dx':DenL X.K G1 (ι1 ++ [x]) (.ref x :: (vs ++ [])) (.cel Ω1.length :: as) := .cons (by simp only [Den];exact ⟨x,rfl,by rw [← w1.len];simp⟩) (by rw [List.append_nil];exact d1.ext (Ext.cell x))
  refine ⟨by rw [dx'.length,hn];simpa using hl,G1,ι1 ++ [x],_,_,wB,dx',?_⟩
  revert h1
  generalize F (.cel Ω1.length :: as) (Ω1 ++ [.ins cls []])=q
  intro h1
  match q,h1 with
  | some (.ok .non,Ω2),h1 =>
   intro v H' G' ι' e' w' d'
   simp only [Den] at d'
   subst d'
   refine ⟨rfl,h1 (.ref x) H' G' ι' ⟨e'.same,fun k a q=>e'.pre k a (by rw [List.getElem?_append_left (List.getElem?_eq_some_iff.mp q).1];exact q)⟩ w' ?_⟩
   simp only [Den]
   exact ⟨x,rfl,e'.pre _ _ (by rw [← w1.len];simp)⟩
 ·rw [if_neg hl] at h1;exact h1.elim
structure ztP (P:Program) (w:World) (K:PySem.W.Frag) (mg:Str→Option Value) (base:Heap) (rk m:Str) (k:Nat) (n:Nat) (F:List A→Mo A):Prop where
 ex:∃ R f fd ps,mg rk=some (.ref R)∧zzc K R m f∧ps.length=n∧FnOk P w K mg base (CXE P w) k f fd ps (spV K ps.length F)∧Binds K fd ps []
end
end V2
namespace V2
open PySem PySem.Spec PyProof.Rows L2
def ownF (cs:List Str) (i:Nat) (f:Str) (ρ:Ev) (Ω:Sto):Option (Nat × Str × List (Str × Fd) × Fd):=match (ρ[i]?).join with
 | some (.cel s)=>match Ω[s]? with
  | some (.ins cls fs)=>if cls ∈ cs then (fs.lookup f).map fun fd=>(s,cls,fs,fd) else none
  | _=>none
 | _=>none
abbrev lent (Ω:Sto) (s:Nat) (cls f:Str) (fs:List (Str × Fd)) (c:Cell):Sto:=Ω.set s (.ins cls (putD f (.val (.cel Ω.length)) fs)) ++ [c]
section
variable {cs:List Str} {i:Nat} {f:Str} {ρ:Ev} {Ω:Sto} {s:Nat} {cls:Str} {fs:List (Str × Fd)} {fd fd':Fd} {c c':Cell}
theorem zhB (h:ownF cs i f ρ Ω=some (s,cls,fs,fd)):ρ[i]? = some (some (.cel s))∧Ω[s]? = some (.ins cls fs)∧cls ∈ cs∧fs.lookup f=some fd:=by
 unfold ownF at h
 cases e1:(ρ[i]?).join with
 | none=>rw [e1] at h;cases h
 | some d =>
  rw [e1] at h
  cases d with
  | cel k =>
   simp only at h
   cases e2:Ω[k]? with
   | none=>rw [e2] at h;cases h
   | some c =>
    rw [e2] at h
    cases c with
    | ins cls' fs' =>
     simp only at h
     by_cases hc:cls' ∈ cs
     ·rw [if_pos hc] at h
      cases e3:fs'.lookup f with
      | none=>rw [e3] at h;cases h
      | some x =>
       rw [e3] at h
       cases h
       exact ⟨join_some e1,e2,hc,e3⟩
     ·rw [if_neg hc] at h;cases h
    | _=>cases h
  | _=>cases h
theorem zrs (h1:ρ[i]? = some (some (.cel s))) (h2:Ω[s]? = some (.ins cls fs)) (h3:cls ∈ cs) (h4:fs.lookup f=some fd):ownF cs i f ρ Ω=some (s,cls,fs,fd):=by
 unfold ownF
 rw [h1]
 simp [h2,h3,h4]
theorem zuY (h:ownF cs i f ρ Ω=some (s,cls,fs,fd)) (hc:fd.cell=some c):Unf s f Ω (lent Ω s cls f fs c):=by
 obtain ⟨h1,h2,h3,h4⟩:=zhB h
 exact ⟨cls,fs,fd,c,h2,h4,hc,rfl⟩
theorem zhU {n:Nat} {f:Str} {fd:Fd}:∀ {fs:List (Str × Fd)},ClFs n fs→ClF n fd→ClFs n (putD f fd fs)
 | [],_,h=>⟨h,trivial⟩
 | (g,x) :: r,c,h=>by
  by_cases e:g=f
  ·simp only [putD,if_pos e];exact ⟨h,c.2⟩
  ·simp only [putD,if_neg e];exact ⟨c.1,zhU c.2 h⟩
theorem zor (cl:ClS Ω ρ) (h:ownF cs i f ρ Ω=some (s,cls,fs,fd)) (hc:fd'.cell=some c') (hn:ClF Ω.length fd'):Folds s f Ω.length (lent Ω s cls f fs c') (Ω.set s (.ins cls (putD f fd' fs))):=by
 obtain ⟨h1,h2,h3,h4⟩:=zhB h
 have hs:s < Ω.length:=(List.getElem?_eq_some_iff.mp h2).1
 refine ⟨Ω.set s (.ins cls (putD f (.val (.cel Ω.length)) fs)),c',cls,putD f (.val (.cel Ω.length)) fs,fd',rfl,by simp,List.getElem?_set_self hs,?_,hc,fun k x hk hx=>?_,?_,?_⟩
 ·rw [zds,if_pos rfl]
 ·rw [List.getElem?_set_ne (Ne.symm hk)] at hx
  exact cl.cel k x hx
 ·rw [zc1]
  have:=cl.cel s _ h2
  exact zhU this hn
 ·rw [zc1,List.set_set]
theorem zqq (cl:ClS Ω ρ) (h:ownF cs i f ρ Ω=some (s,cls,fs,fd)) (hc:fd.cell=some c):Folds s f Ω.length (lent Ω s cls f fs c) Ω:=by
 obtain ⟨h1,h2,h3,h4⟩:=zhB h
 obtain ⟨j,e1,_⟩:=zhp h4
 have hn:ClF Ω.length fd:=(cl.cel s _ h2:ClFs _ fs).get e1
 have:=zor cl h hc hn
 rw [zhX h4] at this
 have e:Ω.set s (.ins cls fs)=Ω:=by
  apply List.ext_getElem?
  intro j
  by_cases hj:s=j
  ·subst hj
   rw [List.getElem?_set_self (List.getElem?_eq_some_iff.mp h2).1,h2]
  ·rw [List.getElem?_set_ne hj]
 rwa [e] at this
theorem znn (h:ownF cs i f ρ Ω=some (s,cls,fs,fd)):(lent Ω s cls f fs c)[Ω.length]? = some c:=by
 rw [List.getElem?_append_right (by simp)];simp
theorem zoU (h:ownF cs i f ρ Ω=some (s,cls,fs,fd)):vFld cs f (vVar i) ρ (lent Ω s cls f fs c)=some (.ok (.cel Ω.length),lent Ω s cls f fs c):=by
 obtain ⟨h1,h2,h3,h4⟩:=zhB h
 have hs:s < Ω.length:=(List.getElem?_eq_some_iff.mp h2).1
 have e:(lent Ω s cls f fs c)[s]? = some (.ins cls (putD f (.val (.cel Ω.length)) fs)):=by
  rw [List.getElem?_append_left (by simpa using hs),List.getElem?_set_self hs]
 have l:(putD f (Fd.val (.cel Ω.length)) fs).lookup f=some (.val (.cel Ω.length)):=by rw [zds,if_pos rfl]
 have h1':(ρ[i]?).join=some (.cel s):=by rw [h1];rfl
 simp only [vFld,vVar,need,mb,h1',Option.map_some,gFld,e,if_pos h3,l]
theorem zlD (c2:Cell):(lent Ω s cls f fs c).set Ω.length c2=lent Ω s cls f fs c2:=by
 unfold lent
 rw [List.set_append_right _ _ (by simp)];simp
theorem zsx {α β:Type} {m:Mo α} {k:α→Mo β} {Ω Ω1:Sto} {a:α} (h:m Ω=some (.ok a,Ω1)):mb m k Ω=k a Ω1:=by simp [mb,h]
end
def zyZ (fe:Ev→Mo A):Prop:=∀ ρ Ω Ω' r,fe ρ Ω=some r→∃ a,r=(.ok a,Ω)∧fe ρ Ω'=some (.ok a,Ω')∧(ClS Ω ρ→Cl Ω.length a)
theorem zuF (j:Nat):zyZ (vVar j):=fun ρ Ω Ω' r h=>by
 simp only [vVar,need] at h ⊢
 cases e:(ρ[j]?).join with
 | none=>rw [e] at h;cases h
 | some a=>rw [e] at h;cases h;exact ⟨a,rfl,rfl,fun c=>c.env j a (join_some e)⟩
@[simp] def zgK (cs:List Str) (i:Nat) (f:Str):Ev→Mo A:=fun ρ Ω=>match ownF cs i f ρ Ω with
 | some (_,_,_, .lst ds)=>some (.ok (.int ds.length),Ω)
 | _=>none
@[simp] def zpD (cs:List Str) (i:Nat) (f:Str) (fe:Ev→Mo A):Ev→Mo A:=fun ρ Ω=>match ownF cs i f ρ Ω with
 | some (s,cls,fs, .lst ds)=>match fe ρ Ω with
  | some (.ok a,_)=>if ds.length < sizeLine then some (.ok .non,Ω.set s (.ins cls (putD f (.lst (ds ++ [a])) fs))) else none
  | _=>none
 | _=>none
theorem zri {n:Nat}:∀ {ds es:List A},ClL n ds→ClL n es→ClL n (ds ++ es)
 | [],_,_,h=>h
 | _ :: _,_,c,h=>⟨c.1,zri c.2 h⟩
theorem zyJ {cs:List Str} {i:Nat} {f:Str} {ρ:Ev} {Ω:Sto} {s:Nat} {cls:Str} {fs:List (Str × Fd)} {fd:Fd} (cl:ClS Ω ρ) (h:ownF cs i f ρ Ω=some (s,cls,fs,fd)):ClF Ω.length fd:=by
 obtain ⟨h1,h2,h3,h4⟩:=zhB h
 obtain ⟨j,e1,_⟩:=zhp h4
 exact (cl.cel s _ h2:ClFs _ fs).get e1
section
variable {X:Cx} {W:WX} {e e1 o tg:Expr} {f:Str} {cs:List Str} {i:Nat} {pos pos' apos fpos:Pos} {fe fi:Ev→Mo A}
theorem znT (h:VE X W e (vCl gLen (zab (vFld cs f (vVar i)) a0))):VE X W e (zgK cs i f):=by
 refine znA h fun ρ Ω r cl hd=>?_
 unfold zgK at hd
 split at hd
 ·rename_i s cls fs ds eo
  cases hd
  refine ⟨s,f,_, .int ds.length,_,zuY eo rfl,?_,zqq cl eo rfl,by simp only [Cl],rfl⟩
  have q:=zoU (c := .lst ds) eo
  have l:zaD (lent Ω s cls f fs (.lst ds)) (.cel Ω.length)=some ds:=zaH (znn eo)
  have l2:zbl (lent Ω s cls f fs (.lst ds)) (.cel Ω.length)=some ds:=l
  show mb (mb (vFld cs f (vVar i) ρ) fun x=>mb (a0 ρ) fun xs=>ret (x :: xs)) gLen _=_
  rw [zsx (a:=[A.cel Ω.length]) (Ω1:=lent Ω s cls f fs (.lst ds)) (by rw [zsx q];rfl)]
  simp [gLen,l,l2]
 ·cases hd
theorem zvV (h:VE X W e (vBM zcS (vFld cs f (vVar i)) (zab fe a0))) (hp:zyZ fe):VE X W e (zpD cs i f fe):=by
 refine znA h fun ρ Ω r cl hd=>?_
 unfold zpD at hd
 split at hd
 ·rename_i s cls fs ds eo
  split at hd
  ·rename_i a Ω' e2
   split at hd
   ·rename_i hl
    cases hd
    obtain ⟨b,q1,q2,q3⟩:=hp ρ Ω (lent Ω s cls f fs (.lst ds)) _ e2
    cases q1
    refine ⟨s,f,_, .non,lent Ω s cls f fs (.lst (ds ++ [a])),zuY eo rfl,?_,zor cl eo rfl (zri (zyJ cl eo) ⟨q3 cl,trivial⟩),by simp only [Cl],rfl⟩
    have q:=zoU (c := .lst ds) eo
    have l:zfL (lent Ω s cls f fs (.lst ds)) (.cel Ω.length)=some (Ω.length,ds):=zcp (znn eo)
    have il:isL (lent Ω s cls f fs (.lst ds)) (.cel Ω.length):=zg0 (zaH (znn eo))
    simp only [vBM]
    rw [zsx q,if_pos il]
    rw [zsx (a:=[a]) (Ω1:=lent Ω s cls f fs (.lst ds)) (by
     show mb (fe ρ) (fun x=>mb (a0 ρ) fun xs=>ret (x :: xs)) _=_
     rw [zsx q2];rfl)]
    simp only [zcS,l,if_pos hl,zlD]
   ·cases hd
  ·cases hd
 ·cases hd
end
def zh6 (Ω:Sto):A→Option (List A)
 | .lst ds=>some ds
 | .cel k=>match Ω[k]? with
  | some (.lst ds)=>some ds
  | _=>none
 | _=>none
theorem zp5 {K:PySem.W.Frag} {G H:Hp} {ι:List Addr} {Ω:Sto} {v:V} {a:A} {ds:List A} (w:Wd K G ι Ω H) (d:Den K G ι v a) (h:zh6 Ω a=some ds):∃ p xs,v = .ref p∧H p=some (.lst xs)∧DenL K G ι xs ds:=by
 cases a with
 | lst es =>
  simp only [zh6,Option.some.injEq] at h;subst h
  simp only [Den] at d
  obtain ⟨p,xs,rfl,h2,h3⟩:=d
  exact ⟨p,xs,rfl,w.sub _ _ h2,h3⟩
 | cel j =>
  simp only [zh6] at h
  split at h
  ·rename_i es e
   cases h
   simp only [Den] at d
   obtain ⟨p,rfl,hk⟩:=d
   obtain ⟨g,xs,h3,h4⟩:=w.cel j _ p e hk
   exact ⟨p,xs,rfl,h3,h4⟩
  ·cases h
 | _=>simp [zh6] at h
@[simp] def zni (o:A) (as:List A):Mo A:=fun Ω=>match zfL Ω o,as with
 | some (k,ds),[y]=>match zh6 Ω y with
  | some es=>if ds.length + es.length ≤ sizeLine then some (.ok .non,Ω.set k (.lst (ds ++ es))) else none
  | none=>none
 | _,_=>none
theorem zub {X:Cx} {W:WX}:MtV X.K W zqJ zni:=by
 intro G ι Ω H σ x xs a as Q w d1 d2 h
 unfold zni at h
 split at h
 ·rename_i k ds y e
  split at h
  ·rename_i es e2
   split at h
   ·rename_i hl
    obtain ⟨p,zs,rfl,hk,g,h3,h4⟩:=zk6 w d1 e
    obtain ⟨u,rfl,du⟩:=den1 d2
    obtain ⟨p2,ys,rfl,h5,h6⟩:=zp5 w du e2
    refine ⟨p,p2,zs,ys,rfl,rfl,h3,h5,by rw [h4.length,h6.length];exact hl,?_⟩
    exact h _ _ G ι (Ext.refl _ _) (w.put (c := .lst (ds ++ es)) hk g ⟨g,_,zay,h4.append h6⟩) (by simp only [Den])
   ·exact False.elim h
  ·exact False.elim h
 ·exact False.elim h
def zoo (i:Nat) (f:Str) (g:MS) (ρ:Ev) (Ω:Sto) (r:Out × Ev × Sto):Prop :=
 ∃ s cls fs fd c Ωa fd' c',ρ[i]? = some (some (.cel s))∧Ω[s]? = some (.ins cls fs)∧fs.lookup f=some fd∧fd.cell=some c∧g ρ (lent Ω s cls f fs c)=some (.nx,r.2.1,Ωa ++ [c'])∧Ωa.length=Ω.length ∧
  Ωa[s]? = some (.ins cls (putD f (.val (.cel Ω.length)) fs))∧fd'.cell=some c'∧(∀ (k:Nat) (x:Cell),k ≠ s→Ωa[k]? = some x→Ω[k]? = some x∨ClC Ω.length x)∧(fd'=fd∨ClF Ω.length fd') ∧
  (∀ (j:Nat) (d:A),r.2.1[j]? = some (some d)→ρ[j]? = some (some d)∨Cl Ω.length d)∧r.1 = .nx∧r.2.2=Ωa.set s (.ins cls (putD f fd' fs))
open Classical in
noncomputable def zgU (i:Nat) (f:Str) (g:MS):MS:=fun ρ Ω=>if h:∃ r,zoo i f g ρ Ω r then some (Classical.choose h) else none
theorem zo2 {a b:Fd} {c:Cell} (h1:a.cell=some c) (h2:b.cell=some c):a=b:=by
 cases a with
 | val x=>cases h1
 | lst ds=>cases b with
  | lst es=>cases h1;cases h2;rfl
  | val _=>cases h2
  | dct _=>cases h1;cases h2
 | dct kvs=>cases b with
  | dct es=>cases h1;cases h2;rfl
  | val _=>cases h2
  | lst _=>cases h1;cases h2
theorem zoo.uniq {i:Nat} {f:Str} {g:MS} {ρ:Ev} {Ω:Sto} {r r':Out × Ev × Sto} (h:zoo i f g ρ Ω r) (h':zoo i f g ρ Ω r'):r=r':=by
 obtain ⟨s,cls,fs,fd,c,Ωa,fd1,c1,a1,a2,a3,a4,a5,a6,a7,a8,a9,a10,a11,a12,a13⟩:=h
 obtain ⟨s',cls',fs',fd',c',Ωb,fd2,c2,b1,b2,b3,b4,b5,b6,b7,b8,b9,b10,b11,b12,b13⟩:=h'
 rw [a1] at b1;cases b1
 rw [a2] at b2;cases b2
 rw [a3] at b3;cases b3
 rw [a4] at b4;cases b4
 rw [a5] at b5
 obtain ⟨r1,r2,r3⟩:=r
 obtain ⟨p1,p2,p3⟩:=r'
 simp only [Option.some.injEq,Prod.mk.injEq,true_and] at *
 obtain ⟨e1,e2⟩:=b5
 obtain ⟨rfl,e3⟩:=List.append_inj' e2 rfl
 simp only [List.cons.injEq,and_true] at e3
 subst e3
 have:=zo2 a8 b8
 subst this
 subst a12 b12
 exact ⟨rfl,e1,by rw [a13,b13]⟩
theorem zoy {i:Nat} {f:Str} {g:MS} {ρ:Ev} {Ω:Sto} {r:Out × Ev × Sto} (h:zoo i f g ρ Ω r):zgU i f g ρ Ω=some r:=by
 have ex:∃ r,zoo i f g ρ Ω r:=⟨r,h⟩
 unfold zgU
 rw [dif_pos ex]
 exact congrArg some (zoo.uniq (Classical.choose_spec ex) h)
section
variable {X:Cx} {W:WX} {st:Stmt} {f:Str} {cs:List Str} {i:Nat} {pos lpos apos fpos npos:Pos} {gs:MS} {x:Str}
theorem zi2 (h:VS X W st gs):VS X W st (zgU i f gs):=by
 refine zwu h fun ρ Ω r cl hd=>?_
 unfold zgU at hd
 split at hd
 ·rename_i ex
  cases hd
  generalize hr:Classical.choose ex=r
  have hsp:=Classical.choose_spec ex
  rw [hr] at hsp
  obtain ⟨s,cls,fs,fd,c,Ωa,fd1,c1,a1,a2,a3,a4,a5,a6,a7,a8,a9,a10,a11,a12,a13⟩:=hsp
  obtain ⟨ix,e1,_⟩:=zhp a3
  have hfd:ClF Ω.length fd:=(cl.cel s _ a2:ClFs _ fs).get e1
  refine ⟨s,f,_,Ωa ++ [c1],⟨cls,fs,fd,c,a2,a3,a4,rfl⟩,a5,⟨Ωa,c1,cls,_,fd1,rfl,a6,a7,by rw [zds,if_pos rfl],a8,fun k x hk hx=>?_,?_,by rw [zc1];exact a13⟩,fun j d hj=>?_,a12⟩
  ·rcases a9 k x hk hx with z | z
   ·exact cl.cel k x z
   ·exact z
  ·rw [zc1]
   exact zhU (cl.cel s _ a2:ClFs _ fs) (by rcases a10 with z | z;exact z ▸ hfd;exact z)
  ·rcases a11 j d hj with z | z
   ·exact cl.env j d z
   ·exact z
 ·cases hd
end
end V2
namespace V2
open PySem PySem.Spec PyProof.Rows L2
def objF (cs:List Str) (i:Nat) (ρ:Ev) (Ω:Sto):Option (Nat × Str × List (Str × Fd)):=match (ρ[i]?).join with
 | some (.cel s)=>match Ω[s]? with
  | some (.ins cls fs)=>if cls ∈ cs then some (s,cls,fs) else none
  | _=>none
 | _=>none
theorem zuN {cs:List Str} {i:Nat} {ρ:Ev} {Ω:Sto} {s:Nat} {cls:Str} {fs:List (Str × Fd)} (h:objF cs i ρ Ω=some (s,cls,fs)):ρ[i]? = some (some (.cel s))∧Ω[s]? = some (.ins cls fs)∧cls ∈ cs:=by
 unfold objF at h
 cases e1:(ρ[i]?).join with
 | none=>rw [e1] at h;cases h
 | some d =>
  rw [e1] at h
  cases d with
  | cel k =>
   simp only at h
   cases e2:Ω[k]? with
   | none=>rw [e2] at h;cases h
   | some c =>
    rw [e2] at h
    cases c with
    | ins cls' fs' =>
     simp only at h
     by_cases hc:cls' ∈ cs
     ·rw [if_pos hc] at h
      cases h
      exact ⟨join_some e1,e2,hc⟩
     ·rw [if_neg hc] at h;cases h
    | _=>cases h
  | _=>cases h
@[simp] def Fd.ofC:Cell→Option Fd
 | .lst ds=>some (.lst ds)
 | .dct kvs=>some (.dct kvs)
 | _=>none
theorem Fd.zue {c:Cell} {fd:Fd} (h:Fd.ofC c=some fd):fd.cell=some c:=by
 cases c <;> cases h <;> rfl
open Classical in
@[simp] noncomputable def zkz (cs:List Str) (i:Nat) (f:Str) (fv:Ev→Mo A):MS:=fun ρ Ω=>match objF cs i ρ Ω with
 | some (s,cls,fs)=>match fv ρ Ω with
  | some (.ok (.cel n),Ω1)=>match Ω1[Ω.length]? with
   | some c=>match Fd.ofC c with
    | some fd=>if n=Ω.length∧Ω1=Ω ++ [c]∧fs.length < 1000∧ClF Ω.length fd then some (.nx,ρ,Ω.set s (.ins cls (putD f fd fs))) else none
    | none=>none
   | none=>none
  | _=>none
 | none=>none
section
variable {X:Cx} {W:WX} {st:Stmt} {f:Str} {cs:List Str} {i:Nat} {fv:Ev→Mo A}
theorem zoj (h:VS X W st (zjF cs f (vVar i) fv)):VS X W st (zkz cs i f fv):=by
 obtain ⟨t,p,sm⟩:=h
 refine ⟨t,p,fun G ι Ω H σ ρ D w r h=>?_⟩
 have cl:=w.clS r
 unfold zkz at h
 split at h
 ·rename_i s cls fs eo
  split at h
  ·rename_i n Ω1 e1
   split at h
   ·rename_i c e2
    split at h
    ·rename_i fd e3
     split at h
     ·rename_i hc
      obtain ⟨rfl,rfl,hl,hcl⟩:=hc
      obtain ⟨h1,h2,h3⟩:=zuN eo
      have hsl:s < Ω.length:=(List.getElem?_eq_some_iff.mp h2).1
      have hcell:=Fd.zue e3
      refine sm G ι Ω H σ ρ D w r ?_
      have h1':(ρ[i]?).join=some (.cel s):=by rw [h1];rfl
      have h2':(Ω ++ [c])[s]? = some (.ins cls fs):=by rw [List.getElem?_append_left hsl];exact h2
      have e:zjF cs f (vVar i) fv ρ Ω=some (.nx,ρ,Ω.set s (.ins cls (putD f (.val (.cel Ω.length)) fs)) ++ [c]):=by
       simp only [zjF,sM,e1,vVar,need,h1',Option.map_some,h2',if_pos (And.intro h3 hl)]
       rw [List.set_append_left _ _ hsl]
      rw [e]
      intro σ' H' G' ι' ex w' r'
      have wf:=w'.fold (s:=s) (f:=f) (fd:=fd) (cls:=cls) (fs:=putD f (.val (.cel Ω.length)) fs) (List.getElem?_set_self hsl) (by rw [zds,if_pos rfl];simp) hcell (fun k x hk hx=>by
       rw [List.getElem?_set_ne (Ne.symm hk)] at hx
       have:=cl.cel k x hx
       simpa using this) (by
       rw [zc1]
       have:=zhU (f:=f) (cl.cel s _ h2:ClFs _ fs) hcl
       simpa using this)
      rw [zc1,List.set_set,List.length_set] at wf
      refine h σ' H' G' (ι'.take Ω.length) ⟨ex.same,fun k x q=>?_⟩ wf (zo6 r' fun j d hj=>cl.env j d hj)
      have hk:=(List.getElem?_eq_some_iff.mp q).1
      rw [List.getElem?_take,if_pos (by rw [← w.len];exact hk)]
      exact ex.pre k x q
     ·exact h.elim
    ·exact h.elim
   ·exact h.elim
  ·exact h.elim
 ·exact h.elim
end
theorem zec {K:PySem.W.Frag} {f:Str}:zaI K [] f:=fun cls h=>by simp at h
theorem zdd {K:PySem.W.Frag} {f cls:Str} {cs:List Str} {C:Addr} (h1:PySem.W.nsIn K mainGlobals cls=some (some (.ref C))) (h2:Cls K C) (h3:PySem.W.findIn K (.ref C) f=some none) (t:zaI K cs f):zaI K (cls :: cs) f:=fun c h=>by
 rcases List.mem_cons.mp h with e | e
 ·subst e;exact ⟨C,h1,h2,h3⟩
 ·exact t c e
section
variable {P:Program} {w:World} {K:PySem.W.Frag} {mg:Str→Option Value} {base:Heap}
theorem znD {x qual:Str} {st:Stmt} {N ps:List Str} {k:Nat} {b:MS} {f:Addr} {fd:FuncData} (F:Fun K x qual st f fd) (S:zaq N ps (zac st))
  (hbody:∀ (f:Addr) (cdv:Value) (A:Around) (outer:List Env) (s:Shared) (H:Hp) (E:XK),Room k (A.deeper (envOfC qual (zac st) s.heap.objs.size f cdv)) →
   VSs (cxX P w K mg base N qual (zac st) f cdv A outer s H E) (fun _=>E) (zaj st) b):FnOk P w K mg base (CXE P w) (k + 1) f fd ps (spV K ps.length (fnF N.length b)):=by
 obtain ⟨oc,od,kV,doc,pm,an,cdv,ct,osl,rfl,lk,hcd⟩:=F.ex
 refine zrb lk hcd S (fun vs H Q E h=>h.1) fun A outer s H vs Q E hr hsp=>?_
 obtain ⟨t,p,q⟩:=hbody f cdv A outer s H E hr
 exact ⟨t,zo9 p,zj9 q hsp⟩
structure HasM (K:PySem.W.Frag) (mg:Str→Option Value) (cls m qual:Str) (st:Stmt):Prop where
 ex:∃ C f fd,PySem.W.nsIn K mainGlobals cls=some (some (.ref C))∧mg cls=some (.ref C)∧Cls K C∧Meth K C m f∧Fun K m qual st f fd
theorem zbv.of {cls m qual:Str} {st:Stmt} {N ps:List Str} {k:Nat} {b:MS} (h:HasM K mg cls m qual st) (S:zaq N ps (zac st))
  (bind:∀ (kV doc pm:Value) (an:Option Addr) (cdv ct:Value) (us:List Value),us.length=ps.length→bindArgs (PySem.W.fnOf m qual (zar st) (zaj st) (zac st) .none kV doc pm an cdv ct) ⟨us,[]⟩ = pure (ps.zip us))
  (hbody:∀ (f:Addr) (cdv:Value) (A:Around) (outer:List Env) (s:Shared) (H:Hp) (E:XK),Room k (A.deeper (envOfC qual (zac st) s.heap.objs.size f cdv)) →
   VSs (cxX P w K mg base N qual (zac st) f cdv A outer s H E) (fun _=>E) (zaj st) b):zbv P w K mg base cls m (k + 1) ps.length [] (fnF N.length b):=by
 obtain ⟨C,f,fd,h1,_,h2,h3,F⟩:=h.ex
 exact ⟨C,f,fd,ps,[],[],h1,h2,h3,rfl,znD F S hbody,F.binds bind, .nil,fun _ _ => .nil⟩
theorem zbv.none {cls m qual:Str} {st:Stmt} {N ps:List Str} {k n:Nat} (h:HasM K mg cls m qual st) (hn:ps.length=n) (bind:∀ (kV doc pm:Value) (an:Option Addr) (cdv ct:Value) (us:List Value),us.length=ps.length→bindArgs (PySem.W.fnOf m qual (zar st) (zaj st) (zac st) .none kV doc pm an cdv ct) ⟨us,[]⟩ = pure (ps.zip us)) :
  zbv P w K mg base cls m k n [] (fun _=>stuck):=by
 obtain ⟨C,f,fd,h1,_,h2,h3,F⟩:=h.ex
 exact ⟨C,f,fd,ps,[],[],h1,h2,h3,hn,⟨fun vs H Q E h=>h.1,fun A outer s H args us vs Q E hr he hb hv hs=>by obtain ⟨_,_,_,_,_,_,_,q⟩:=hs;exact q.elim⟩,F.binds bind, .nil,fun _ _ => .nil⟩
structure HasI (K:PySem.W.Frag) (mg:Str→Option Value) (cls qual:Str) (st:Stmt):Prop where
 ex:∃ C f fd,PySem.W.nsIn K mainGlobals cls=some (some (.ref C))∧mg cls=some (.ref C)∧Mk K C f∧Fun K "__init__" qual st f fd
theorem zql.of {cls qual:Str} {st:Stmt} {N ps:List Str} {k:Nat} {b:MS} (h:HasI K mg cls qual st) (S:zaq N ps (zac st))
  (bind:∀ (kV doc pm:Value) (an:Option Addr) (cdv ct:Value) (us:List Value),us.length=ps.length→bindArgs (PySem.W.fnOf "__init__" qual (zar st) (zaj st) (zac st) .none kV doc pm an cdv ct) ⟨us,[]⟩ = pure (ps.zip us))
  (hbody:∀ (f:Addr) (cdv:Value) (A:Around) (outer:List Env) (s:Shared) (H:Hp) (E:XK),Room k (A.deeper (envOfC qual (zac st) s.heap.objs.size f cdv)) →
   VSs (cxX P w K mg base N qual (zac st) f cdv A outer s H E) (fun _=>E) (zaj st) b):zql P w K mg base cls (k + 1) ps.length (fnF N.length b):=by
 obtain ⟨C,f,fd,h1,h2,h3,F⟩:=h.ex
 exact ⟨C,f,fd,ps,h1,h2,h3,rfl,znD F S hbody,F.binds bind⟩
structure HasB (K:PySem.W.Frag) (mg:Str→Option Value) (rk m qual:Str) (st:Stmt):Prop where
 ex:∃ R f fd,mg rk=some (.ref R)∧zzc K R m f∧Fun K m qual st f fd
theorem ztP.of {rk m qual:Str} {st:Stmt} {N ps:List Str} {k:Nat} {b:MS} (h:HasB K mg rk m qual st) (S:zaq N ps (zac st))
  (bind:∀ (kV doc pm:Value) (an:Option Addr) (cdv ct:Value) (us:List Value),us.length=ps.length→bindArgs (PySem.W.fnOf m qual (zar st) (zaj st) (zac st) .none kV doc pm an cdv ct) ⟨us,[]⟩ = pure (ps.zip us))
  (hbody:∀ (f:Addr) (cdv:Value) (A:Around) (outer:List Env) (s:Shared) (H:Hp) (E:XK),Room k (A.deeper (envOfC qual (zac st) s.heap.objs.size f cdv)) →
   VSs (cxX P w K mg base N qual (zac st) f cdv A outer s H E) (fun _=>E) (zaj st) b):ztP P w K mg base rk m (k + 1) ps.length (fnF N.length b):=by
 obtain ⟨R,f,fd,h1,h2,F⟩:=h.ex
 exact ⟨R,f,fd,ps,h1,h2,rfl,znD F S hbody,F.binds bind⟩
end
end V2
namespace M
open PySem V2
noncomputable def ziE:MS :=
 (sSeq (sAsg (vCl zmO (zab (cI 0) (zab (vOp (gSub) (vCl gLen (zab (vVar 0) a0)) (vVar 1)) a0))) (gN 3))
  (sRet (vCl zhF (zab (vVar 2) (zab (vCl zmO (zab (vVar 3) (zab (vOp (gMod) (vCl (zat 2 zba) (zab (vVar 0) (zab (vOp (gSub) (vVar 1) (cI 1)) a0))) (vOp (gAdd false) (vVar 2) (cI 1))) a0))) a0)))))
noncomputable def zdA:List A→Mo A:=fnF 4 ziE
noncomputable def zeX:MS :=
 (sSeq (sAsg (vCl zmO (zab (cI 0) (zab (vOp (gSub) (vCl gLen (zab (vVar 0) a0)) (vVar 1)) a0))) (gN 3))
  (sRet (vCl (zat 2 zbi) (zab (vCl (zat 2 zba) (zab (vVar 0) (zab (vOp (gAdd false) (vVar 1) (vOp (gMod) (vVar 2) (vCl zmO (zab (cI 1) (zab (vVar 3) a0))))) a0))) (zab (vVar 2) a0)))))
noncomputable def zdv:List A→Mo A:=fnF 4 zeX
end M
namespace V2
open PySem PySem.Spec PyProof.Rows L2
section
variable {X:Cx} {W:WX}
end
theorem Inv.zrj {X:Cx} {pins:List (Addr × Obj)} {σ:L2.St} {H:Hp} {s:Shared} {h':Heap} {t':Nat} {ch:List Addr} (I:Inv X pins σ H s) (k:∀ b o,b ∉ ch→s.heap.get? b=some o→h'.get? b=some o) (hf:∀ b ∈ ch,FpOk X pins H b):Inv X pins σ H { s with heap:=h',toks:=t' }:=by
 have ne:∀ b u,H b=some u→b ∉ ch:=fun b u q z=>by rw [(hf b z).1] at q;cases q
 refine I.step (g':=s.gens) (d':=s.drawn) (ch:=ch) (fun b hb=>?_) (fun b o _ _ hc q _=>k b o hc q) (fun b o _ _ hc q _=>⟨o.slots,k b o hc q⟩) (fun _ _ _ _ n=>n)
  (fun b o hc q=>⟨o,k b o hc q⟩) (fun _ _ q=>q) (fun _ _ _ q=>q) (fun b ps q=>⟨#[],by rw [q];simp⟩) (fun m hm=>?_) (fun b u q=>?_) I.bare
 ·obtain ⟨a0,a1,a2,a3,a4,a5⟩:=hf b hb
  exact ⟨a3,a1,a4,a5⟩
 ·obtain ⟨o,es,ep,ho,r⟩:=hm
  exact ⟨o,es,ep,k _ o (fun z=>(hf _ z).2.1 rfl) ho,r⟩
 ·refine (I.hok b u q).stay (fun c v hc q'=>k c v ?_ q') (fun _ q=>q) fun _ _ q=>q
  rcases hc with z | z
  ·rw [z];exact ne b u q
  ·exact ne c _ z
section
variable {X:Cx} {W:WX} {pos:Pos}
end
end V2
namespace V2
open PySem PySem.Spec PyProof.Rows L2
section
variable {X:Cx} {W:WX}
end
end V2
namespace M
open PySem V2
end M
namespace V2
open PySem PySem.Spec PyProof.Rows L2
section
variable {X:Cx} {pins:List (Addr × Obj)} {σ:L2.St} {H:Hp} {s:Shared}
theorem Inv.frm (I:Inv X pins σ H s):∃ m,s.heap.Ns X.env.locals m∧Fr X.base X.env.locals s.heap m :=
 let ⟨m,hn,_⟩:=I.loc
 ⟨m,hn,hn,I.bk,Nat.le_trans I.ok.bsz I.ok.above⟩
end
section
variable {X:Cx} {W:WX}
end
end V2
namespace L2
open PySem PySem.Spec PyProof.Rows
section
variable {prog:Program} {w:World} {A:Around} {E:Value→Shared→Prop} {s:Shared}
end
end L2
namespace L2
open PySem PySem.Spec PyProof.Rows
section
variable {X:Cx}
end
end L2
namespace L2
open PySem PySem.Spec PyProof.Rows
section
variable {X:Cx} {tg:Expr}
end
end L2
namespace V2
open PySem PySem.Spec PyProof.Rows L2
section
variable {X:Cx} {W:WX} {e a b:Expr} {es:List Expr} {pos:Pos} {fa fb:Ev→Mo A} {fs:Ev→Mo (List A)}
end
end V2
namespace L2
open PySem PySem.Spec PyProof.Rows
def zu2 (scope:Scope):Bool:=(scope.kind == .function) && scope.names.all fun y=>y.2 != .cell && (y.2 != .free && (y.2 != .local || scope.names.lookup y.1 == some .local))
theorem LcOk.of0 {X:Cx} {scope:Scope} {ls:List Str} (ok:zu2 scope=true):LcOk X scope ls []:=by
 unfold zu2 at ok
 rw [Bool.and_eq_true,List.all_eq_true] at ok
 obtain ⟨h1,h2⟩:=ok
 have hl:∀ y ∈ scope.names,y.2 ≠ .cell∧y.2 ≠ .free∧(y.2 = .local→scope.names.lookup y.1=some .local):=fun y hy=>by
  have:=h2 y hy
  rw [Bool.and_eq_true,Bool.and_eq_true,Bool.or_eq_true] at this
  refine ⟨by simpa using this.1,by simpa using this.2.1,fun e=>?_⟩
  rcases this.2.2 with z | z
  ·simp [e] at z
  ·simpa using z
 refine ⟨by simpa using h1,fun y hy=>(hl y hy).1,fun y hy=>(hl y hy).2.2,fun y hy hf=>?_,fun j hj=>?_⟩
 ·exact absurd hf (hl y hy).2.1
 ·simp at hj
end L2
namespace V2
open PySem PySem.Spec PyProof.Rows L2
end V2
namespace L2
open PySem
end L2
namespace L2
open PySem
theorem zxt {h h':Heap} {t:Addr} {xs:Array Value} (q:h.IsTuple t xs) (f:∀ o,h.get? t=some o→h'.get? t=some o):h'.IsTuple t xs:=by
 obtain ⟨o,q1,q2⟩:=q
 exact ⟨o,f o q1,q2⟩
end L2
namespace V2
open PySem PySem.Spec PyProof.Rows L2
section
variable {X:Cx} {W:WX} {pos:Pos}
end
end V2
namespace L2
open PySem PySem.Spec PyProof.Rows
section
variable {X:Cx}
end
end L2
namespace V2
open PySem PySem.Spec PyProof.Rows L2
section
variable {X:Cx} {W:WX} {e a b:Expr} {pos:Pos} {fa fb:Ev→Mo A}
end
end V2
namespace L2
open PySem PySem.Spec PyProof.Rows
theorem zkx:entryFor table "dict_itemiterator.__iter__" = some Builtin.«dict_keyiterator.__iter__» :=
 entryFor_alias (id' := "dict_keyiterator.__iter__") (by kernel_rfl) (by rfl) (by decide +kernel) (by kernel_rfl)
theorem zlg {prog:Program} {w:World} {A:Around} {E:Value→Shared→Prop} {s:Shared} {it d:Addr} {i n ep:Nat} {ok ov:Value} {Q:Value→Shared→Prop} (h:IsItemIter s.heap it d i n ep ok ov) (q:Q (.ref it) s):wpAny (model prog w) A (pyIter (.ref it)) Q E s:=by
 have ty:s.TypeIs (.ref it) "dict_itemiterator":=⟨_,h,rfl⟩
 exact wpAny_pyIter_slot ty F.slot_dict_itemiterator_iter (wpAny_call_entry F.slot_dict_itemiterator_iter ty zkx (wpAny_pure ⟨_,rfl,_,_,ty,F.slot_dict_itemiterator_next.lookup,q⟩) (F.args_dict_itemiterator_iter_1 _))
end L2
namespace V2
open PySem PySem.Spec PyProof.Rows L2
def Iti (a:Addr) (o:Obj) (kvs:List (Key × V)):It :=
 ⟨fun i H=>H a=some (.frz o (.dK kvs))∧i < kvs.length,fun i H x H'=>∃ p kv,kvs[i]? = some kv∧H p=none∧H'=upd H p (.tup [kV kv.1,kv.2])∧x = .ref p,fun i H=>H a=some (.frz o (.dK kvs))∧kvs.length ≤ i⟩
theorem zu7 {X:Cx} {pins:List (Addr × Obj)} {σ:L2.St} {H:Hp} {s:Shared} {a:Addr} {o:Obj} {kvs:List (Key × V)} {es:Array DictEntry} {ep:Nat} (I:Inv X pins σ H s) (h:H a=some (.frz o (.dK kvs))) (hd:o.data = .dict es ep) :
  ∃ vs,KV kvs vs∧Heap.DictAt (zbz X.prog X.w) s.heap a vs ep:=by
 obtain ⟨h1,z,y,vs,rel,o',es',ep',q1,q2,q3,q4⟩:=I.hok a _ h
 rw [h1] at q1
 cases q1
 rw [hd] at q3
 cases q3
 exact ⟨vs,rel,o,es,h1,q2,hd,q4⟩
theorem ztG {P:Program} {w:World} {K:PySem.W.Frag} {elts:List Expr} {x1:Nat} {tp:Pos} (a it:Addr) (o:Obj) (kvs:List (Key × V)) (es:Array DictEntry) (ep:Nat) (hd:o.data = .dict es ep) :
  Turn P w K (.Tuple elts x1 tp) (Iti a o kvs) [it] it (fun i h=>∃ ok ov,IsItemIter h it a i kvs.length ep ok ov) where
 mem:=by simp
 obj:=fun i h st c hc=>by
  obtain ⟨ok,ov,st⟩:=st
  have e:c=it:=by simpa using hc
  subst e
  exact ⟨_,st,fun v z=>by cases z⟩
 keep:=fun i h h' st k=>by
  obtain ⟨ok,ov,st⟩:=st
  exact ⟨ok,ov,k it (by simp) _ st⟩
 item:=by
  intro X hP hw hK hc i pins s σ H E I hf st hg
  subst hP hw hK
  obtain ⟨ok,ov,st⟩:=st
  obtain ⟨hH,hi⟩:=hg
  obtain ⟨vs,rel,dat⟩:=zu7 I hH hd
  have hl:kvs.length=vs.length:=rel.length
  have hkv:kvs[i]? = some kvs[i]:=List.getElem?_eq_getElem hi
  generalize kvs[i]=kv at hkv
  obtain ⟨kv2,g1,g2,g3⟩:=zkP rel hkv
  have hsz:it < s.heap.objs.size:=Heap.lt_size st
  rw [hl] at st
  refine wpAny_pyNext_items_item (k:=kv2.1) (v:=kv2.2) st dat g1 fun key h1 hk a1 a2 a3 a4=>?_
  refine ⟨_,rfl,wpAny_letOwnedTupleGo_items (s:={ s with heap:=h1 }) a1 fun h2 e2 sb=>?_⟩
  have hp0:H s.heap.objs.size=none:=I.hok.fresh (Nat.le_refl _)
  have k2:∀ c o,c ∉ [it]→s.heap.get? c=some o→h2.get? c=some o:=fun c o hc q=>by
   have hc:c ≠ it:=by simpa using hc
   exact sb.extBut c o hc (a4 c o hc q)
  have t2:h2.get? s.heap.objs.size=some { cls := .type "tuple",data := .seq #[key,kv2.2] }:=sb.extBut _ _ (Nat.ne_of_gt hsz) a2
  have I1:Inv X pins σ H { s with heap:=h2 }:=Inv.zrj (t':=s.toks) I k2 hf
  have rk:RelV (kV kv.1) key:=by rw [g2];exact zzk hk
  have hok:HOk X.prog X.w (upd H s.heap.objs.size (.tup [kV kv.1,kv.2])) h2:=by
   refine fun b o q=>?_
   by_cases eb:b=s.heap.objs.size
   ·subst eb
    rw [zay] at q
    cases q
    exact ⟨by show 2 ≤ sizeLine;decide,[key,kv2.2], .cons rk (.cons g3 .nil),⟨_,t2,rfl,_,rfl⟩⟩
   ·rw [zan eb] at q
    exact (I1.hok b o q).stay (fun c v _ z=>z) (fun c z=>by rw [zan (zaz z hp0)];exact z) fun c xs z=>by rw [zan (zaz z hp0)];exact z
  have fp:FpOk X pins H s.heap.objs.size:=I.fpOk (Nat.le_refl _) hp0
  have h0:X.s₀.heap.get? s.heap.objs.size=none:=by
   cases q:X.s₀.heap.get? s.heap.objs.size with
   | none=>rfl
   | some ob=>exact absurd (Nat.lt_of_lt_of_le (Heap.lt_size q) I.sz) (Nat.lt_irrefl _)
  have I2:Inv X pins σ (upd H s.heap.objs.size (.tup [kV kv.1,kv.2])) { s with heap:=h2 }:=Inv.zw1 I1 hp0 h0 fp.2.1 fp.2.2.2.2.1 fp.2.2.2.2.2 hok
  rw [← hl] at e2
  refine ⟨.ref s.heap.objs.size,_,I2,rfl,⟨_,kv,hkv,hp0,rfl,rfl⟩,⟨_,_,e2⟩,fun c hc=>?_⟩
  have hc2:=(hf c hc).1
  have e:c=it:=by simpa using hc
  subst e
  rw [zan (Nat.ne_of_lt hsz)];exact hc2
 done:=by
  intro X hP hw hK hc i pins s σ H E I hf st hg
  subst hP hw hK
  obtain ⟨ok,ov,st⟩:=st
  obtain ⟨hH,hi⟩:=hg
  obtain ⟨vs,rel,dat⟩:=zu7 I hH hd
  have hl:kvs.length=vs.length:=rel.length
  rw [hl] at st
  refine wpAny_pyNext_items_end (I.ok.hd hc) st dat (by simp;omega) fun h' hk=>⟨rfl,Inv.zrj (t':=s.toks) I (fun c o hc q=>hk c o (by simpa using hc) q) hf⟩
 self:=fun _ _ _ _ _ st h=>by
  obtain ⟨ok,ov,st⟩:=st
  exact zlg st h
theorem Inv.frzD {X:Cx} {pins:List (Addr × Obj)} {σ:L2.St} {H:Hp} {s:Shared} {a:Addr} {kvs:List (Key × V)} {o:Obj} (I:Inv X pins σ H s) (h:H a=some (.dK kvs)) (ho:s.heap.get? a=some o):Inv X pins σ (upd H a (.frz o (.dK kvs))) s where
 ok:=I.ok
 os:=I.os
 bare:=I.bare
 base:={
  keep:=I.base.keep
  slot:=I.base.slot
  free:=fun b ob q n hx=>by
   have z:=I.base.free b ob q n hx
   rw [zan (Ne.symm (zaz h z))];exact z
  there:=I.base.there
  tups:=fun b xs q=>by have z:=I.base.tups b xs q;rw [zan (znw z h (by intro w;cases w))];exact z
  frzs:=fun b ob u q=>by have z:=I.base.frzs b ob u q;rw [zan (znw z h (by intro w;cases w))];exact z
  tbls:=fun b ps q=>by obtain ⟨more,z⟩:=I.base.tbls b ps q;exact ⟨more,by rw [zan (znw z h (by intro w;cases w))];exact z⟩ }
 loc:=I.loc
 cell:=I.cell
 free:=by rw [zan (Ne.symm (zaz h I.free))];exact I.free
 freeC:=fun x c q=>by rw [zan (Ne.symm (zaz h (I.freeC x c q)))];exact I.freeC x c q
 pin:=fun q hq=>by
  obtain ⟨x,y,c⟩:=I.pin q hq
  exact ⟨x,by rw [zan (Ne.symm (zaz h y))];exact y,c⟩
 hok:=fun b u q=>by
  have st:∀ c v,H c=some v→v ≠ .dK kvs→upd H a (.frz o (.dK kvs)) c=some v:=fun c v z hv=>by rw [zan (znw z h hv)];exact z
  by_cases eb:b=a
  ·subst eb
   rw [zay] at q
   cases q
   exact ⟨ho,(I.hok b _ h).stay (fun c v _ z=>z) (fun c z=>st c _ z (by intro w;cases w)) fun c xs z=>st c _ z (by intro w;cases w)⟩
  ·rw [zan eb] at q
   exact (I.hok b u q).stay (fun c v _ z=>z) (fun c z=>st c _ z (by intro w;cases w)) fun c xs z=>st c _ z (by intro w;cases w)
 len:=I.len
section
variable {X:Cx} {W:WX} {pos:Pos}
theorem zxK {o:Expr} {td:TE} {elts:List Expr} {x1:Nat} {tp apos q2:Pos} (ho:PE X o td) (hbase:attributeBase o "items" X.env (eval o X.env)=eval o X.env:=by rfl) (hline:(apos.endLine == q2.line)=true:=by rfl) :
  PI X (.Tuple elts x1 tp) (.Call (.Attribute o "items" apos) [] [] q2) (fun σ H R=>td σ H fun x H1=>∃ a kvs,x = .ref a∧H1 a=some (.dK kvs)∧∀ ob,R (Iti a ob kvs) (upd H1 a (.frz ob (.dK kvs)))):=by
 intro pins s σ H R I h
 refine wpAny_Call_method0_late hbase hline (thn (ho pins s σ H _ I h) fun v s1 ⟨x,H1,I1,r1,q1⟩=>?_)
 obtain ⟨a,kvs,rfl,hH,q⟩:=q1
 cases r1
 obtain ⟨h1,h2,hsm⟩:=zvd I1 (.inl ⟨kvs, .inl hH⟩)
 obtain ⟨z,_,vs,rel,dd⟩:=zwb I1.hok hH
 refine ⟨"dict", "dict.items",PySem.F.plainAttrs_dict,PySem.F.slot_dict_items,PySem.F.type_dict_items,h1,h2,Calls.callWith_builtin rfl (PySem.evalArgs_none ?_)⟩
 refine call_meetsIn PySem.F.slot_dict_items dd.typeIs PySem.F.entry_dict_items (PySem.F.args_dict_items_1 _) (meets_dict_items (zbz X.prog X.w) a hsm) ⟨⟨vs,dd⟩,?_⟩
 obtain ⟨ob,es,ep,g1,g2,g3,g4⟩:=dd
 have hl:kvs.length=vs.length:=rel.length
 have I2:Inv X pins σ H1 { s1 with heap:=s1.heap.push { cls := .type "dict_items",data := .fields #[.ref a] } }:=I1.kept (t':=s1.toks) fun b o e=>Heap.get?_push_of_some _ e
 have dat:Heap.DictAt (zbz X.prog X.w) (s1.heap.push { cls := .type "dict_items",data := .fields #[.ref a] }) a vs ep:=⟨ob,es,Heap.get?_push_of_some _ g1,g2,g3,g4⟩
 refine wpAny_pyIter_items (s:={ s1 with heap:=s1.heap.push { cls := .type "dict_items",data := .fields #[.ref a] } }) ⟨_,Heap.get?_push_size _ rfl,rfl,rfl⟩ dat ?_
 generalize hs2:({ s1 with heap:=s1.heap.push { cls := .type "dict_items",data := .fields #[.ref a] } }:Shared)=s2 at I2 dat
 have ga:s2.heap.get? a=some ob:=by rw [← hs2];exact Heap.get?_push_of_some _ g1
 have I3:=V2.Inv.frzD I2 hH ga
 have I4:Inv X pins σ (upd H1 a (.frz ob (.dK kvs))) { s2 with heap:=s2.heap.push { cls := .type "dict_itemiterator",data := .fields #[.none, .bool false, .ref a, .int 0 0, .int vs.length 0, .int ep 0, .none, .none] } }:=I3.kept (t':=s2.toks) fun b o e=>Heap.get?_push_of_some _ e
 have hs3:s2.heap=s1.heap.push { cls := .type "dict_items",data := .fields #[.ref a] }:=by rw [← hs2]
 refine ⟨s2.heap.objs.size,[s2.heap.objs.size],_,_,_,rfl,I4,ztG a _ ob kvs es ep g3,⟨.none, .none,by rw [hl];exact Heap.get?_push_size _ rfl⟩,fun c hc=>?_,q ob⟩
 have e:c=s2.heap.objs.size:=by simpa using hc
 subst e
 exact I3.fpOk (Nat.le_refl _) (I3.hok.fresh (Nat.le_refl _))
def zjS (kvs:List (Key × A)):Src:=⟨kvs.map itA,fun _=>True⟩
@[simp] def vDIt (f:Ev→Mo A):Ev→Mo Src:=fun ρ=>mb (f ρ) fun a Ω=>match zgT Ω a with
 | some (k,kvs)=>some (.ok (zjS kvs),Ω.set k .dead)
 | none=>none
theorem zvF {K:PySem.W.Frag} {G:Hp} {ι:List Addr} {p:Addr} {o:Obj} {ws:List (Key × V)} {kvs:List (Key × A)} (hG:G p=some (.frz o (.dK ws))) (hk:ws.map (·.1)=kvs.map (·.1)) (d:DenL K G ι (ws.map (·.2)) (kvs.map (·.2))):ItV K G ι (Iti p o ws) (zjS kvs):=by
 have hl:ws.length=kvs.length:=by have:=congrArg List.length hk;simpa using this
 have ls:(zjS kvs).ds.length=kvs.length:=by simp [zjS]
 refine ⟨fun G' ι' Ω' H' e w h i hi=>⟨w.sub _ _ (e.same _ _ hG),by rw [hl,← ls];exact hi⟩,fun G' ι' Ω' H' e w h i hi=>⟨w.sub _ _ (e.same _ _ hG),by rw [hl,← ls];exact hi⟩,fun G' ι' Ω' H' e w h i x H2 y hy hd=>?_⟩
 obtain ⟨q,kv,g1,g2,rfl,rfl⟩:=hd
 have hy':(kvs.map itA)[i]? = some y:=hy
 rw [List.getElem?_map] at hy'
 cases ek:kvs[i]? with
 | none=>rw [ek] at hy';cases hy'
 | some kv2 =>
  rw [ek] at hy'
  cases hy'
  have k1:kv.1=kv2.1:=by
   have:=congrArg (fun l=>l[i]?) hk
   simp only [List.getElem?_map,g1,ek,Option.map_some,Option.some.injEq] at this
   exact this
  obtain ⟨z,z1,z2⟩:=d.get (i:=i) (d:=kv2.2) (by rw [List.getElem?_map,ek];rfl)
  rw [List.getElem?_map,g1] at z1
  cases z1
  refine ⟨upd G' q (.tup [kV kv.1,kv.2]),Ext.new (w.zg9 g2) _,w.new g2 _,?_⟩
  simp only [itA,Den]
  exact ⟨q,[kV kv.1,kv.2],rfl,zay, .cons (by rw [k1];exact zxx _) (.cons ((z2.ext e).ext (Ext.new (w.zg9 g2) _)) .nil)⟩
theorem zy7 {o:Expr} {f:Ev→Mo A} {elts:List Expr} {x1:Nat} {tp apos q2:Pos} (ho:VE X W o f) (hbase:attributeBase o "items" X.env (eval o X.env)=eval o X.env:=by rfl) (hline:(apos.endLine == q2.line)=true:=by rfl) :
  VI X W (.Tuple elts x1 tp) (.Call (.Attribute o "items" apos) [] [] q2) (vDIt f):=by
 obtain ⟨t,p,s⟩:=ho
 refine ⟨_,zxK p hbase hline,fun G ι Ω H σ ρ R w r h=>?_⟩
 refine s G ι Ω H σ ρ _ w r (Post.mb h fun a Ω1 v H1 G1 ι1 x1 w1 d1 h1=>?_)
 split at h1
 ·rename_i k kvs e
  obtain ⟨p,ws,rfl,hk,g,q1,q2,q3⟩:=zgC w1 d1 e
  refine ⟨p,ws,rfl,q1,fun ob=>?_⟩
  have w2:=w1.put (k:=k) (c := .dead) (o := .frz ob (.dK ws)) hk g trivial
  have w3:=w2.freeze hk g zay
  rw [List.set_set] at w3
  have e0:Ext G1 ι1 (upd G1 p (.frz ob (.dK ws))) ι1:=Ext.new g _
  exact h1 _ _ _ _ e0 w3 (zvF zay q2 (q3.ext e0))
 ·exact False.elim h1
end
end V2
namespace L2
open PySem PySem.Spec PyProof.Rows
theorem zmx {M:Model} {A:Around} {E:Value→Shared→Prop} {s:Shared} {env:Env} {pos:Pos} {T:String} {e:Expr} {rest:List Expr} {kws:List Keyword} {Q:Value→Shared→Prop}
  (h:wpAny M A (spliced (backTo pos (starEach (e :: rest) env))) (fun vs s₁=>wpAny M A (evalAll ((backToKw pos (keywordEach kws env)).map fun x=>x.2)) (fun kvs s₂=>wpAny M A (call (.type T) vs (((backToKw pos (keywordEach kws env)).filterMap fun x=>x.1).zip kvs)) Q E s₂) E s₁) E s)
  (h1:backTo pos (starEach (e :: rest) env)=(false,eval e env) :: backTo pos (starEach rest env):=by rfl) (h2:((backTo pos (starEach (e :: rest) env)).any fun x=>x.1)=false:=by rfl)
  (h3:((backToKw pos (keywordEach kws env)).all fun x=>x.1.isSome)=true:=by rfl) (h4:((backToKw pos (keywordEach kws env)).any fun x=>x.1.isNone)=false:=by rfl) :
  wpAny M A (callWith pos (.type T) [] (backTo pos (starEach (e :: rest) env)) (backToKw pos (keywordEach kws env))) Q E s:=by
 unfold callWith
 refine wpAny_bind (wpAny_holding ?_)
 rw [h2,h4]
 rw [h1] at h ⊢
 refine evalArgs_kwB h3 ?_
 refine wpAny_mono h (fun vs s1 q=>wpAny_mono q (fun kvs s2 q2=>?_) fun _ _ z=>z) fun _ _ z=>z
 refine wpAny_bind (wpAny_standAt ?_)
 refine wpAny_bind (wpAny_pure ?_)
 refine wpAny_bind (wpAny_mono q2 (fun r s3 q3=>?_) fun _ _ z=>z)
 exact wpAny_bind (wpAny_holding (wpAny_point (wpAny_pure q3)))
theorem kwT (t:Tok) (l:Addr):checkTypeCall "enumerate" { pos:=[.ref l],kw:=[(Str.ofString "start", .int 1 t)] }=pure ():=by kernel_rfl
theorem kwN (t:Tok) (l:Addr):checkBuiltinCall "enumerate.__new__" { pos:=[.type "enumerate", .ref l],kw:=[(Str.ofString "start", .int 1 t)] }=pure ():=by kernel_rfl
theorem kwI (t:Tok) (o:Value) (l:Addr):argsOk "object.__init__" { pos:=[o, .ref l],kw:=[(Str.ofString "start", .int 1 t)] }:=by kernel_rfl
theorem zpg {prog:Program} {w:World} {A:Around} {E:Value→Shared→Prop} {s:Shared} {l:Addr} {items:Array Value} {t:Tok} {Q:Value→Shared→Prop} (hl:s.heap.IsList l items)
  (hQ:∀ h',IsEnum h' (s.heap.objs.size + 1) s.heap.objs.size 1 .none→h'.IsListIter s.heap.objs.size l 0→h'.objs.size=s.heap.objs.size + 2→(∀ b o,s.heap.get? b=some o→h'.get? b=some o)→Q (.ref (s.heap.objs.size + 1)) { s with heap:=h' }) :
  wpAny (model prog w) A (call (.type "enumerate") [.ref l] [(Str.ofString "start", .int 1 t)]) Q E s:=by
 refine wpAny_call ?_
 refine codeAny_of_tree ?_
 show wpAny _ _ (pure (Fin.again (Code.builtin "type.__call__" { pos:=[.type "enumerate", .ref l],kw:=[(Str.ofString "start", .int 1 t)] }))) _ _ s
 refine wpAny_pure ⟨Code.quiet_builtin _ (by decide +kernel),?_⟩
 refine codeAny_builtin F.entry_type_call ?_
 rw [Around.under_plain (weight_type_call_type ..) (units_type_call_type ..)]
 have TC:=F.called_enumerate
 unfold Builtin.«type.__call__»
 refine wpAny_ite_false TC.notType ?_
 refine wpAny_ite_false TC.canCreate ?_
 refine wpAny_bind (wpAny_of_eq (kwT t l) ?_)
 obtain ⟨c,tl,hm⟩:=TC.mro
 refine wpAny_bind (wpAny_of_eq hm ?_)
 refine wpAny_ite_false rfl ?_
 refine wpAny_bind (wpAny_of_eq TC.made ?_)
 refine wpAny_bind (wpAny_pure ?_)
 refine wpAny_bind (wpAny_holding (wpAny_call (codeAny_call_builtin TC.plain F.entry_enumerate_new (wpAny_of_eq (kwN t l) ?_))))
 unfold Builtin.«enumerate.__new__» Builtin.SmallTypes.newClass
 refine wpAny_bind (wpAny_bind (wpAny_of_eq (a:=true) rfl ?_))
 refine wpAny_ite_false rfl ?_
 refine wpAny_bind (wpAny_of_eq TC.sub ?_)
 refine wpAny_ite_false rfl (wpAny_pure ?_)
 refine wpAny_ite_true rfl ?_
 unfold Builtin.SmallTypes.calledThroughType
 refine wpAny_bind (wpAny_bind (wpAny_stack_any fun st=>wpAny_pure ?_))
 have fin:∀ (h':Heap),IsEnum h' (s.heap.objs.size + 1) s.heap.objs.size 1 .none→h'.IsListIter s.heap.objs.size l 0→h'.objs.size=s.heap.objs.size + 2→(∀ b o,s.heap.get? b=some o→h'.get? b=some o) →
   ∀ {Q':PySem.Fin→Shared→Prop} {E':Value→Shared→Prop},(∀ s',Q (.ref (s.heap.objs.size + 1)) s'→Q' (.done (.ret (.ref (s.heap.objs.size + 1)))) s') →
   wpAny (model prog w) A.in1 (do
       let __do_lift ← isInstance (.ref (s.heap.objs.size + 1)) (Value.type "enumerate")
       if (!__do_lift)=true then do
         rule "type.call.new-gave-other-type"
         ret (.ref (s.heap.objs.size + 1))
        else do
         let __do_lift ←
          holding [.ref (s.heap.objs.size + 1)]
            (callSpecial? (.ref (s.heap.objs.size + 1)) (Str.ofString "__init__") [Value.ref l] [(Str.ofString "start",Value.int 1 t)])
         match __do_lift with
          | none=>ret (.ref (s.heap.objs.size + 1))
          | some r =>
           if (r != Value.none)=true then do
            rule "type.call.init-returned-value"
            let __do_lift ← typeNameOf r
            raiseErrorMade "TypeError"
              (toString "__init__() should return None, not '" ++ toString __do_lift ++ toString "'")
            ret (.ref (s.heap.objs.size + 1))
           else ret (.ref (s.heap.objs.size + 1))) Q' E' { s with heap:=h' }:=by
  intro h' g1 g2 g3 g4 Q' E' hq
  have ty:({ s with heap:=h' }:Shared).TypeIs (.ref (s.heap.objs.size + 1)) "enumerate":=⟨_,g1,rfl⟩
  refine wpAny_bind (wpAny_isInstance (b:=true) ty TC.sub ?_)
  refine wpAny_ite_false rfl ?_
  refine wpAny_bind (wpAny_holding (wpAny_callSpecial?_slot ty TC.init ?_))
  refine wpAny_call (codeAny_call_builtin TC.init.plain F.entry_object_init (TC.init.check _ _ _ _ _ _ _ _ ty (kwI t _ l) ?_))
  unfold Builtin.«object.__init__»
  refine wpAny_ite_true rfl ?_
  refine wpAny_bind (wpAny_typeOf ty ?_)
  refine wpAny_bind (wpAny_of_eq TC.init.lookup ?_)
  refine wpAny_bind (wpAny_of_eq TC.made ?_)
  refine wpAny_ite_false rfl ?_
  refine wpAny_ite_false (by simp) ?_
  refine wpAny_pure ?_
  refine wpAny_ite_false rfl ?_
  exact wpAny_pure (hq _ (hQ h' g1 g2 g3 g4))
 dsimp only
 split
 ·split
  ·refine wpAny_bind (wpAny_of_eq (a:=(.ref l,some (.int 1 t))) (by kernel_rfl) ?_)
   refine wpAny_bind (wpAny_of_eq (a := .int 1 t) (by kernel_rfl) ?_)
   refine wpAny_bind (wpAny_of_eq (a:=some 1) (by kernel_rfl) ?_)
   refine wpAny_ite_false rfl ?_
   refine wpAny_bind (wpAny_pyIter_list hl ?_)
   unfold Builtin.SmallTypes.newRecord
   refine wpAny_bind (wpAny_newObj_type ?_ (show 6 ≤ sizeLine + 2 by decide))
   refine wpAny_pure ?_
   have e1:(s.heap.push { cls := .type "list_iterator",data := .fields #[.ref l, .int 0 0] }).objs.size=s.heap.objs.size + 1:=Heap.size_push _ _
   have k:∀ {Q':PySem.Fin→Shared→Prop} {E':Value→Shared→Prop},_→wpAny _ _ _ Q' E' _:=fin _ (Heap.get?_push_at (h:=s.heap.push { cls := .type "list_iterator",data := .fields #[.ref l, .int 0 0] }) (o:={ cls := .type "enumerate",data := .fields #[.none, .bool false, .ref s.heap.objs.size,rawInt 1, .none, .none] }) e1.symm rfl) ⟨{ cls := .type "list_iterator",data := .fields #[.ref l, .int 0 0] },Heap.get?_push_of_some _ (Heap.get?_push_size _ rfl),rfl,rfl⟩ (by simp only [Heap.size_push]) (fun b o q=>Heap.get?_push_of_some _ (Heap.get?_push_of_some _ q))
   show wpAny _ _ (isInstance (Value.ref (s.heap.push { cls := .type "list_iterator",data := .fields #[.ref l, .int 0 0] }).objs.size) _ >>= _) _ _ _
   rw [e1]
   exact k fun s' hs=>hs
  ·refine wpAny_bind (wpAny_of_eq (a:=(.ref l,some (.int 1 t))) (by kernel_rfl) ?_)
   refine wpAny_bind (wpAny_of_eq (a := .int 1 t) (by kernel_rfl) ?_)
   refine wpAny_bind (wpAny_of_eq (a:=some 1) (by kernel_rfl) ?_)
   refine wpAny_ite_false rfl ?_
   refine wpAny_bind (wpAny_pyIter_list hl ?_)
   unfold Builtin.SmallTypes.newRecord
   refine wpAny_bind (wpAny_newObj_type ?_ (show 6 ≤ sizeLine + 2 by decide))
   refine wpAny_pure ?_
   have e1:(s.heap.push { cls := .type "list_iterator",data := .fields #[.ref l, .int 0 0] }).objs.size=s.heap.objs.size + 1:=Heap.size_push _ _
   have k:∀ {Q':PySem.Fin→Shared→Prop} {E':Value→Shared→Prop},_→wpAny _ _ _ Q' E' _:=fin _ (Heap.get?_push_at (h:=s.heap.push { cls := .type "list_iterator",data := .fields #[.ref l, .int 0 0] }) (o:={ cls := .type "enumerate",data := .fields #[.none, .bool false, .ref s.heap.objs.size,rawInt 1, .none, .none] }) e1.symm rfl) ⟨{ cls := .type "list_iterator",data := .fields #[.ref l, .int 0 0] },Heap.get?_push_of_some _ (Heap.get?_push_size _ rfl),rfl,rfl⟩ (by simp only [Heap.size_push]) (fun b o q=>Heap.get?_push_of_some _ (Heap.get?_push_of_some _ q))
   show wpAny _ _ (isInstance (Value.ref (s.heap.push { cls := .type "list_iterator",data := .fields #[.ref l, .int 0 0] }).objs.size) _ >>= _) _ _ _
   rw [e1]
   exact k fun s' hs=>hs
 ·refine wpAny_ite_false rfl ?_
  refine wpAny_bind (wpAny_of_eq (a:=(.ref l,some (.int 1 t))) (by kernel_rfl) ?_)
  refine wpAny_bind (wpAny_of_eq (a := .int 1 t) (by kernel_rfl) ?_)
  refine wpAny_bind (wpAny_of_eq (a:=some 1) (by kernel_rfl) ?_)
  refine wpAny_ite_false rfl ?_
  refine wpAny_bind (wpAny_pyIter_list hl ?_)
  unfold Builtin.SmallTypes.newRecord
  refine wpAny_bind (wpAny_newObj_type ?_ (show 6 ≤ sizeLine + 2 by decide))
  refine wpAny_pure ?_
  have e1:(s.heap.push { cls := .type "list_iterator",data := .fields #[.ref l, .int 0 0] }).objs.size=s.heap.objs.size + 1:=Heap.size_push _ _
  have k:∀ {Q':PySem.Fin→Shared→Prop} {E':Value→Shared→Prop},_→wpAny _ _ _ Q' E' _:=fin _ (Heap.get?_push_at (h:=s.heap.push { cls := .type "list_iterator",data := .fields #[.ref l, .int 0 0] }) (o:={ cls := .type "enumerate",data := .fields #[.none, .bool false, .ref s.heap.objs.size,rawInt 1, .none, .none] }) e1.symm rfl) ⟨{ cls := .type "list_iterator",data := .fields #[.ref l, .int 0 0] },Heap.get?_push_of_some _ (Heap.get?_push_size _ rfl),rfl,rfl⟩ (by simp only [Heap.size_push]) (fun b o q=>Heap.get?_push_of_some _ (Heap.get?_push_of_some _ q))
  show wpAny _ _ (isInstance (Value.ref (s.heap.push { cls := .type "list_iterator",data := .fields #[.ref l, .int 0 0] }).objs.size) _ >>= _) _ _ _
  rw [e1]
  exact k fun s' hs=>hs
end L2
namespace L2
open PySem PySem.Spec PyProof.Rows
theorem zpG {prog:Program} {w:World} {A:Around} {E:Value→Shared→Prop} {s:Shared} {e it l:Addr} {j:Int} {i:Nat} {items:Array Value} {x old:Value} {Q:Option Value→Shared→Prop} (he:IsEnum s.heap e it j old) (hi:s.heap.IsListIter it l i) (hl:s.heap.IsList l items) (hx:items[i]? = some x) (hne:e ≠ it)
  (hQ:∀ h',IsEnumOut h' e it (j + 1) x s.heap.objs.size→h'.IsListIter it l (i + 1)→h'.get? s.heap.objs.size=some { cls := .type "tuple",data := .seq #[.int j s.toks,x] }→h'.objs.size=s.heap.objs.size + 1 →
   (∀ b o,b ≠ e→b ≠ it→s.heap.get? b=some o→h'.get? b=some o)→Q (some (.ref s.heap.objs.size)) { s with heap:=h',toks:=s.toks + 1 }):wpAny (model prog w) A (pyNext (.ref e)) Q E s:=by
 have ty:s.TypeIs (.ref e) "enumerate":=⟨_,he,rfl⟩
 have hse:e < s.heap.objs.size:=Heap.lt_size he
 unfold pyNext
 refine wpAny_bind (wpAny_attempt (wpAny_callSpecial?_slot ty F.slot_enumerate_next (wpAny_call_entry F.slot_enumerate_next ty F.entry_enumerate_next ?_ (F.args_enumerate_next_1 _))))
 unfold Builtin.«enumerate.__next__»
 refine wpAny_bind (wpAny_pure ?_)
 refine wpAny_bind (wpAny_field he rfl (i:=2) rfl ?_)
 refine wpAny_bind (wpAny_nextOf_list_item hi hl hx fun h1 n1 sb1=>?_)
 have e1:=sb1.extBut _ _ hne he
 refine wpAny_bind (wpAny_field e1 rfl (i:=3) rfl ?_)
 refine wpAny_bind (wpAny_field e1 rfl (i:=4) rfl ?_)
 refine wpAny_ite_true rfl ?_
 refine wpAny_bind (wpAny_mkInt' ?_)
 refine wpAny_bind (wpAny_setField_rec e1 (by simp) fun h2 e2 sb2=>?_)
 refine wpAny_bind (wpAny_setField_rec e2 (by simp) fun h3 e3 sb3=>?_)
 refine wpAny_bind (wpAny_newTuple ?_ (show 2 ≤ sizeLine by decide))
 have sz:h3.objs.size=s.heap.objs.size:=sb3.1.trans (sb2.1.trans sb1.1)
 have p3:=Heap.get?_push_of_some { cls := .type "tuple",data := .seq [Value.int j s.toks,x].toArray } e3
 unfold Builtin.SmallTypes.ownedTupleIsFree
 refine wpAny_bind (wpAny_bind (wpAny_field p3 rfl (i:=0) rfl (wpAny_pure ?_)))
 refine wpAny_ite_true rfl ?_
 refine wpAny_bind (wpAny_rule ?_)
 refine wpAny_bind (wpAny_field p3 rfl (i:=5) rfl ?_)
 refine wpAny_bind (wpAny_setField_rec p3 (by simp) fun h5 e5 sb5=>?_)
 unfold Builtin.SmallTypes.ownedTupleHandOut
 refine wpAny_bind (wpAny_bind (wpAny_setField_rec e5 (by simp) fun h6 e6 sb6=>?_))
 refine wpAny_setField_rec e6 (by simp) fun h7 e7 sb7=>?_
 refine wpAny_bind (wpAny_letGo ?_)
 refine wpAny_pure ⟨_,rfl,wpAny_pure ?_⟩
 show Q (some (.ref h3.objs.size)) { s with heap:=h7,toks:=s.toks + 1 }
 rw [sz]
 have k5:∀ b o,b ≠ e→(h3.push { cls := .type "tuple",data := .seq [Value.int j s.toks,x].toArray }).get? b=some o→h7.get? b=some o:=fun b o q1 q=>sb7.extBut _ _ q1 (sb6.extBut _ _ q1 (sb5.extBut _ _ q1 q))
 have k3:∀ b o,b ≠ e→h1.get? b=some o→h7.get? b=some o:=fun b o q1 q=>k5 b o q1 (Heap.get?_push_of_some _ (sb3.extBut _ _ q1 (sb2.extBut _ _ q1 q)))
 have hp:(h3.push { cls := .type "tuple",data := .seq [Value.int j s.toks,x].toArray }).get? s.heap.objs.size=some { cls := .type "tuple",data := .seq #[.int j s.toks,x] }:=by
  rw [← sz];exact Heap.get?_push_size _ rfl
 rw [sz] at e7
 refine hQ h7 e7 ?_ (k5 _ _ (Nat.ne_of_gt hse) hp) (by rw [sb7.1,sb6.1,sb5.1,Heap.size_push,sz]) fun b o q1 q2 q=>k3 b o q1 (sb1.extBut _ _ q2 q)
 exact n1.at fun o q=>k3 it o (Ne.symm hne) q
theorem zsO {prog:Program} {w:World} {A:Around} {E:Value→Shared→Prop} {s:Shared} {e it l:Addr} {j:Int} {i:Nat} {items:Array Value} {old:Value} {Q:Option Value→Shared→Prop} (hh:A.handled=none) (he:IsEnum s.heap e it j old) (hi:s.heap.IsListIter it l i) (hl:s.heap.IsList l items) (hx:items[i]? = none)
  (hQ:∀ h',Heap.ExtBut it s.heap h'→Q none { s with heap:=h' }):wpAny (model prog w) A (pyNext (.ref e)) Q E s:=by
 have ty:s.TypeIs (.ref e) "enumerate":=⟨_,he,rfl⟩
 unfold pyNext
 refine wpAny_bind (wpAny_attempt (wpAny_callSpecial?_slot ty F.slot_enumerate_next (wpAny_call_entry F.slot_enumerate_next ty F.entry_enumerate_next ?_ (F.args_enumerate_next_1 _))))
 unfold Builtin.«enumerate.__next__»
 refine wpAny_bind (wpAny_pure ?_)
 refine wpAny_bind (wpAny_field he rfl (i:=2) rfl ?_)
 refine wpAny_bind (wpAny_nextOf_list_end hh hi hl hx fun h1 e xb g2=>?_)
 refine wpAny_bind (wpAny_isInstance (T := "StopIteration") g2 isSubtype_stop ?_)
 exact wpAny_ite_true rfl (wpAny_pure (hQ h1 xb))
end L2
namespace V2
open PySem PySem.Spec PyProof.Rows L2
def Ite1 (K:PySem.W.Frag) (a:Addr):It :=
 ⟨fun i H=>∃ xs x,SqL K H a xs∧xs[i]? = some x,fun i H x H'=>∃ p y,H p=none∧H'=upd H p (.tup [.int ((i:Int) + 1),y])∧x = .ref p∧∀ xs,SqL K H a xs→xs[i]? = some y,fun i H=>∃ xs,SqL K H a xs∧xs.length ≤ i⟩
theorem zqd {P:Program} {w:World} {K:PySem.W.Frag} {elts:List Expr} {x1:Nat} {tp:Pos} (a e it:Addr) (hne:e ≠ it):Turn P w K (.Tuple elts x1 tp) (Ite1 K a) [e,it] e (fun i h=>(∃ old,IsEnum h e it ((i:Int) + 1) old)∧h.IsListIter it a i) where
 mem:=by simp
 obj:=fun i h st b hb=>by
  obtain ⟨⟨old,st1⟩,o,q,c,d⟩:=st
  rcases List.mem_cons.mp hb with z | z
  ·subst z;exact ⟨_,st1,fun v z=>by cases z⟩
  ·have z:b=it:=by simpa using z
   subst z;exact ⟨o,q,fun v z=>by rw [d] at z;cases z⟩
 keep:=fun i h h' st k=>⟨let ⟨old,q⟩:=st.1; ⟨old,k e (by simp) _ q⟩,st.2.at fun o q=>k it (by simp) o q⟩
 item:=by
  intro X hP hw hK hc i pins s σ H E I hf st hg
  subst hP hw hK
  obtain ⟨⟨old,st1⟩,st2⟩:=st
  obtain ⟨xs,x,hq,hx⟩:=hg
  obtain ⟨its,rv,p,hz⟩:=I.list hq
  obtain ⟨u,hu,ru⟩:=rv.get hx
  have fe:=hf e (by simp)
  have ft:=hf it (by simp)
  have hse:e < s.heap.objs.size:=Heap.lt_size st1
  have hsi:it < s.heap.objs.size:=let ⟨_,q,_⟩:=st2;Heap.lt_size q
  refine zpG st1 st2 p.isList (x:=u) (by simpa using hu) hne fun h1 e1 i1 t1 z1 k1=>?_
  refine ⟨_,rfl,wpAny_letOwnedTupleGo_enum (s:={ s with heap:=h1,toks:=s.toks + 1 }) e1 fun h2 e2 s2=>?_⟩
  have hp0:H s.heap.objs.size=none:=I.hok.fresh (Nat.le_refl _)
  have k2:∀ b o,b ≠ e→b ≠ it→s.heap.get? b=some o→h2.get? b=some o:=fun b o n1 n2 q=>s2.extBut b o n1 (k1 b o n1 n2 q)
  have t2:h2.get? s.heap.objs.size=some { cls := .type "tuple",data := .seq #[.int ((i:Int) + 1) s.toks,u] }:=s2.extBut _ _ (Nat.ne_of_gt hse) t1
  have I1:Inv X pins σ H { s with heap:=h2,toks:=s.toks + 1 }:=Inv.zrQ (t':=s.toks + 1) I k2 fe ft
  have i2:h2.IsListIter it a (i + 1):=i1.extBut s2.extBut (Ne.symm hne)
  have hok:HOk X.prog X.w (upd H s.heap.objs.size (.tup [.int ((i:Int) + 1),x])) h2:=by
   refine fun b o q=>?_
   by_cases eb:b=s.heap.objs.size
   ·subst eb
    rw [zay] at q
    cases q
    exact ⟨by show 2 ≤ sizeLine;decide,[.int ((i:Int) + 1) s.toks,u], .cons ⟨_,rfl⟩ (.cons ru .nil),⟨_,t2,rfl,_,rfl⟩⟩
   ·rw [zan eb] at q
    exact (I1.hok b o q).stay (fun c v _ z=>z) (fun c z=>by rw [zan (zaz z hp0)];exact z) fun c xs z=>by rw [zan (zaz z hp0)];exact z
  have fp:FpOk X pins H s.heap.objs.size:=I.fpOk (Nat.le_refl _) hp0
  have h0:X.s₀.heap.get? s.heap.objs.size=none:=by
   cases q:X.s₀.heap.get? s.heap.objs.size with
   | none=>rfl
   | some ob=>exact absurd (Nat.lt_of_lt_of_le (Heap.lt_size q) I.sz) (Nat.lt_irrefl _)
  have I2:Inv X pins σ (upd H s.heap.objs.size (.tup [.int ((i:Int) + 1),x])) { s with heap:=h2,toks:=s.toks + 1 }:=Inv.zw1 I1 hp0 h0 fp.2.1 fp.2.2.2.2.1 fp.2.2.2.2.2 hok
  refine ⟨.ref s.heap.objs.size,_,I2,rfl,⟨_,x,hp0,rfl,rfl,fun ys hy=>by rw [I.zlX hy hq];exact hx⟩,⟨⟨_,by rw [Int.natCast_add];exact e2⟩,i2⟩,fun b hb=>?_⟩
  rcases List.mem_cons.mp hb with z | z
  ·subst z;rw [zan (Nat.ne_of_lt hse)];exact fe.1
  ·have z:b=it:=by simpa using z
   subst z;rw [zan (Nat.ne_of_lt hsi)];exact ft.1
 done:=by
  intro X hP hw hK hc i pins s σ H E I hf st hg
  subst hP hw hK
  obtain ⟨⟨old,st1⟩,st2⟩:=st
  obtain ⟨xs,hq,hx⟩:=hg
  obtain ⟨its,rv,p,hz⟩:=I.list hq
  obtain ⟨f0,f1,f2,f3,f4,f5⟩:=hf it (by simp)
  have hl:=rv.length
  exact zsO (I.ok.hd hc) st1 st2 p.isList (by simp;omega) fun h' eb=>⟨rfl,I.turned (t':=s.toks) (fun b o hb e=>eb b o hb e) f0 f1 f3 f4 f5⟩
 self:=fun _ _ _ _ _ st h=>let ⟨_,q⟩:=st.1;wpAny_pyIter_enum q h
section
variable {X:Cx} {W:WX} {pos:Pos}
theorem zux {elts:List Expr} {x1:Nat} {tp p kp vp:Pos} {jj:Nat} {l:Expr} {tl:TE} (hg:Gl X "enumerate") (hm:X.mg "enumerate" = none) (hl:PE X l tl) (hs:starEach [l] X.env=[(false,eval l X.env)]:=by rfl) :
  PI X (.Tuple elts x1 tp) (.Call (.Name "enumerate" p) [l] [⟨some "start", .Constant (.int 1) jj vp,kp⟩] pos) (fun σ H R=>tl σ H fun x H1=>∃ a,x = .ref a∧(∃ xs,SqL X.K H1 a xs)∧R (Ite1 X.K a) H1):=by
 intro pins s σ H R I h
 refine wpAny_Call_Name_kw (zmu I hg hm boot_enumerate ?_)
 refine zmx (thn (zn2 hl zsv hs pos pins s σ H (fun vs H1=>match vs with
  | [x]=>∃ a,x=V.ref a∧(∃ xs,SqL X.K H1 a xs)∧R (Ite1 X.K a) H1
  | _=>False) I h) fun us s1 ⟨vs,H1,I1,r1,q1⟩=>?_) (by rw [hs];rfl) (by rw [hs];rfl)
 match vs,q1 with
 | [x],q1 =>
 obtain ⟨a,e1,⟨xs,hq⟩,q⟩:=q1
 obtain ⟨u,rfl,ru⟩:=vals1 r1
 subst e1
 cases ru
 obtain ⟨its,rv,pl,hz⟩:=I1.list hq
 refine kws_cons ?_
 refine wpAny_Constant_int ?_
 refine kws_nil ?_
 have I1':=I1.tok (s1.toks + 1)
 refine zpg (s:={ s1 with toks:=s1.toks + 1 }) (show s1.heap.IsList a its.toArray from pl.isList) fun h' hE hI hsz hk=>?_
 refine wpAny_pyIter_enum (s:={ s1 with heap:=h',toks:=s1.toks + 1 }) hE ?_
 have I2:Inv X pins σ H1 { s1 with heap:=h',toks:=s1.toks + 1 }:=I1.kept (t':=s1.toks + 1) hk
 refine ⟨_,[s1.heap.objs.size + 1,s1.heap.objs.size],_,_,H1,rfl,I2,zqd a _ _ (Nat.succ_ne_self _),⟨⟨.none,hE⟩,hI⟩,fun b hb=>?_,q⟩
 rcases List.mem_cons.mp hb with z | z
 ·subst z;exact I1.fpOk (Nat.le_succ _) (I1.hok.fresh (Nat.le_succ _))
 ·have z:b=s1.heap.objs.size:=by simpa using z
  subst z;exact I1.fpOk (Nat.le_refl _) (I1.hok.fresh (Nat.le_refl _))
def zlR (a:A) (ds:List A):Src:=⟨zaZ 1 ds,fun Ω=>zaD Ω a=some ds⟩
@[simp] def zuW (f:Ev→Mo A):Ev→Mo Src:=fun ρ=>mb (f ρ) fun a Ω=>match zaD Ω a with
 | some ds=>some (.ok (zlR a ds),Ω)
 | none=>none
theorem zr5 {K:PySem.W.Frag} {G:Hp} {ι:List Addr} {p:Addr} {a:A} {ds:List A} (d:Den K G ι (.ref p) a):ItV K G ι (Ite1 K p) (zlR a ds):=by
 have key:∀ G' ι' Ω' H',Ext G ι G' ι'→Wd K G' ι' Ω' H'→zaD Ω' a=some ds→∃ xs,SqL K H' p xs∧DenL K G' ι' xs ds:=fun G' ι' Ω' H' e w h=>by
  obtain ⟨q,xs,h1,h2,h3⟩:=zco w (d.ext e) h
  cases h1
  exact ⟨xs,h2,h3⟩
 refine ⟨fun G' ι' Ω' H' e w h i hi=>?_,fun G' ι' Ω' H' e w h i hi=>?_,fun G' ι' Ω' H' e w h i x H2 y hy hd=>?_⟩
 ·obtain ⟨xs,h2,h3⟩:=key G' ι' Ω' H' e w h
  have hl:i < xs.length:=by rw [h3.length,← zhO 1 ds];exact hi
  exact ⟨xs,xs[i],h2,List.getElem?_eq_getElem hl⟩
 ·obtain ⟨xs,h2,h3⟩:=key G' ι' Ω' H' e w h
  exact ⟨xs,h2,by rw [h3.length,← zhO 1 ds];exact hi⟩
 ·obtain ⟨xs,h2,h3⟩:=key G' ι' Ω' H' e w h
  obtain ⟨q,z,e1,e2,e3,e4⟩:=hd
  subst e2 e3
  have hy':(zaZ 1 ds)[i]? = some y:=hy
  rw [zk0] at hy'
  cases ed:ds[i]? with
  | none=>rw [ed] at hy';cases hy'
  | some d' =>
   rw [ed] at hy'
   cases hy'
   obtain ⟨z',q1,q2⟩:=h3.get ed
   rw [e4 xs h2] at q1
   cases q1
   refine ⟨upd G' q (.tup [.int ((i:Int) + 1),z]),Ext.new (w.zg9 e1) _,w.new e1 _,?_⟩
   simp only [Den]
   exact ⟨q,_,rfl,zay, .cons (by simp only [Den];congr 1;omega) (.cons (q2.ext (Ext.new (w.zg9 e1) _)) .nil)⟩
theorem ztk {elts:List Expr} {x1:Nat} {tp p kp vp:Pos} {jj:Nat} {l:Expr} {fe:Ev→Mo A} (hg:Gl X "enumerate") (hm:X.mg "enumerate" = none) (h:VE X W l fe) (hs:starEach [l] X.env=[(false,eval l X.env)]:=by rfl) :
  VI X W (.Tuple elts x1 tp) (.Call (.Name "enumerate" p) [l] [⟨some "start", .Constant (.int 1) jj vp,kp⟩] pos) (zuW fe):=by
 obtain ⟨t,p,s⟩:=h
 refine ⟨_,zux hg hm p hs,fun G ι Ω H σ ρ R w r h=>?_⟩
 refine s G ι Ω H σ ρ _ w r (Post.mb h fun a Ω1 v H1 G1 ι1 x1 w1 d1 h1=>?_)
 cases e:zaD Ω1 a with
 | none=>simp only [e] at h1;exact False.elim h1
 | some ds =>
  simp only [e] at h1
  obtain ⟨q,xs,h2,h3,h4⟩:=zco w1 d1 e
  subst h2
  exact ⟨q,rfl,⟨xs,h3⟩,h1 _ H1 G1 ι1 (Ext.refl _ _) w1 (zr5 d1)⟩
end
end V2
namespace V2
open PySem PySem.Spec PyProof.Rows L2
theorem zmb (ns:List Int):∀ j,j ≤ ns.length→preSum (fun i=>(ns[i]?).getD 0) j=(ns.take j).sum
 | 0,_=>rfl
 | j + 1,h=>by
  have ih:=zmb ns j (by omega)
  show preSum _ j + (ns[j]?).getD 0=_
  rw [ih,List.take_add_one,List.sum_append]
  rw [List.getElem?_eq_getElem (by omega)]
  simp
section
variable {X:Cx} {W:WX}
theorem zsX (hc:X.calm=true):zhD X (.builtin "sum") (fun xs H Q=>∃ (a:Addr) (ns:List Int),xs=[.ref a]∧SqT X.K H a (ns.map V.int)∧Q (.int ns.sum) H):=by
 intro pins s σ H xs us Q I r h
 obtain ⟨a,ns,rfl,hq,q⟩:=h
 obtain ⟨u,rfl,ru⟩:=vals1 r
 cases ru
 obtain ⟨its,rv,p,hz⟩:=I.tuple hq
 have p':s.heap.IsTuple a its.toArray:=p
 have hlt:a < s.heap.objs.size:=let ⟨_,z,_⟩:=p;Heap.lt_size z
 have hl:its.length=ns.length:=by have:=rv.length;simpa using this.symm
 refine call_sum_walkG (wpAny_pyIter_tuple p' ?_)
 refine ⟨s.heap.objs.size,_,_,_,_,_,fun i=>(ns[i]?).getD 0,rfl,Walks.tuple (A:=X.A.in1) (show X.A.in1.handled=none from I.ok.hd hc) s.heap.objs.size a (Nat.ne_of_lt hlt) its.toArray,⟨⟨_,Heap.get?_push_size _ rfl,rfl,rfl⟩,zxt p' fun o z=>Heap.get?_push_of_some _ z⟩,fun b hb=>?_,fun i v hv=>?_,fun h' tk t' hk=>?_⟩
 ·simp only [List.mem_cons,List.not_mem_nil,or_false] at hb
  rw [Heap.size_push]
  rcases hb with e | e <;> subst e
  ·exact Nat.lt_succ_self _
  ·exact Nat.lt_succ_of_lt hlt
 ·have hv':its[i]? = some v:=by simpa using hv
  have hi:i < its.length:=(List.getElem?_eq_some_iff.mp hv').1
  obtain ⟨u,hu,ru⟩:=rv.get (i:=i) (x:=V.int (ns[i]'(by omega))) (by rw [List.getElem?_map,List.getElem?_eq_getElem (by omega)];rfl)
  rw [hv'] at hu
  cases hu
  obtain ⟨t,rfl⟩:=ru
  have en:ns[i]? = some (ns[i]'(by omega)):=List.getElem?_eq_getElem (by omega)
  exact ⟨t,by simp [en]⟩
 ·have e:preSum (fun i=>(ns[i]?).getD 0) its.toArray.size=ns.sum:=by
   rw [show its.toArray.size=ns.length by simpa using hl,zmb ns _ (Nat.le_refl _),List.take_of_length_le (Nat.le_refl _)]
  rw [e]
  refine ⟨.int ns.sum,H,I.kept (t':=tk) (fun b o z=>?_),⟨t',rfl⟩,q⟩
  refine hk b o (fun w=>?_) (Heap.get?_push_of_some _ z)
  have:b=s.heap.objs.size:=by simpa using w
  exact absurd (Heap.lt_size z) (by rw [this];exact Nat.lt_irrefl _)
@[simp] def zwf (as:List A):Mo A:=fun Ω=>match as with
 | [.tup ds]=>(match intsOf ds with
  | some ns=>some (.ok (.int ns.sum),Ω)
  | none=>none)
 | as=>gSum as Ω
theorem zyw (hc:X.calm=true):zhJ X W (.builtin "sum") zwf:=by
 obtain ⟨r,c1,c2⟩:=zwk (X:=X) (W:=W) hc
 refine ⟨_,(zsX hc).or c1,?_⟩
 intro G ι Ω H σ xs as Q w d h
 unfold zwf at h
 split at h
 ·rename_i ds
  split at h
  ·rename_i ns e
   obtain ⟨x,rfl,d1⟩:=den1 d
   simp only [Den] at d1
   obtain ⟨p,ys,rfl,h2,h3⟩:=d1
   rw [zjw e h3] at h2
   exact .inl ⟨p,ns,rfl,SqT.of (w.sub _ _ h2),h _ H G ι (Ext.refl _ _) w (by simp only [Den])⟩
  ·exact False.elim h
 ·exact .inr (c2 G ι Ω H σ xs as Q w d h)
@[simp] def zrS (o:A) (as:List A):Mo A:=fun Ω=>match zfL Ω o,as with
 | some (k,y :: ds),[.int 0]=>some (.ok y,Ω.set k (.lst ds))
 | _,_=>none
theorem zzf:MtV X.K W zuZ zrS:=by
 intro G ι Ω H σ x xs a as Q w d1 d2 h
 unfold zrS at h
 split at h
 ·rename_i k y ds e
  obtain ⟨p,zs,rfl,hk,g,h3,h4⟩:=zk6 w d1 e
  obtain ⟨u,rfl,du⟩:=den1 d2
  simp only [Den] at du;subst du
  obtain ⟨z,zs',rfl,q1,q2⟩:=h4.zdI
  refine ⟨p,z :: zs',0,0,z,rfl,rfl,h3,by decide,by decide,by simp [seqIndex?],rfl,?_⟩
  exact h _ _ G ι (Ext.refl _ _) (w.put (c := .lst ds) hk g ⟨g,_,zay,q2⟩) q1
 ·exact False.elim h
end
def zof (i:Nat) (f:Str) (g:Ev→Mo A) (ρ:Ev) (Ω:Sto) (r:Rs A × Sto):Prop :=
 ∃ s cls fs fd c Ωa fd' c' a,ρ[i]? = some (some (.cel s))∧Ω[s]? = some (.ins cls fs)∧fs.lookup f=some fd∧fd.cell=some c∧g ρ (lent Ω s cls f fs c)=some (.ok a,Ωa ++ [c'])∧Ωa.length=Ω.length ∧
  Ωa[s]? = some (.ins cls (putD f (.val (.cel Ω.length)) fs))∧fd'.cell=some c'∧(∀ (k:Nat) (x:Cell),k ≠ s→Ωa[k]? = some x→Ω[k]? = some x∨ClC Ω.length x)∧(fd'=fd∨ClF Ω.length fd')∧Cl Ω.length a∧r=(.ok a,Ωa.set s (.ins cls (putD f fd' fs)))
open Classical in
noncomputable def zjW (i:Nat) (f:Str) (g:Ev→Mo A):Ev→Mo A:=fun ρ Ω=>if h:∃ r,zof i f g ρ Ω r then some (Classical.choose h) else none
theorem zof.uniq {i:Nat} {f:Str} {g:Ev→Mo A} {ρ:Ev} {Ω:Sto} {r r':Rs A × Sto} (h:zof i f g ρ Ω r) (h':zof i f g ρ Ω r'):r=r':=by
 obtain ⟨s,cls,fs,fd,c,Ωa,fd1,c1,a,a1,a2,a3,a4,a5,a6,a7,a8,a9,a10,a11,a12⟩:=h
 obtain ⟨s',cls',fs',fd',c',Ωb,fd2,c2,b,b1,b2,b3,b4,b5,b6,b7,b8,b9,b10,b11,b12⟩:=h'
 rw [a1] at b1;cases b1
 rw [a2] at b2;cases b2
 rw [a3] at b3;cases b3
 rw [a4] at b4;cases b4
 rw [a5] at b5
 simp only [Option.some.injEq,Prod.mk.injEq,Rs.ok.injEq] at b5
 obtain ⟨rfl,e2⟩:=b5
 obtain ⟨rfl,e3⟩:=List.append_inj' e2 rfl
 simp only [List.cons.injEq,and_true] at e3
 subst e3
 have:=zo2 a8 b8
 subst this
 rw [a12,b12]
theorem zra {i:Nat} {f:Str} {g:Ev→Mo A} {ρ:Ev} {Ω:Sto} {r:Rs A × Sto} (h:zof i f g ρ Ω r):zjW i f g ρ Ω=some r:=by
 have ex:∃ r,zof i f g ρ Ω r:=⟨r,h⟩
 unfold zjW
 rw [dif_pos ex]
 exact congrArg some (zof.uniq (Classical.choose_spec ex) h)
theorem zs4 {X:Cx} {W:WX} {e:Expr} {i:Nat} {f:Str} {g:Ev→Mo A} (h:VE X W e g):VE X W e (zjW i f g):=by
 refine znA h fun ρ Ω r cl hd=>?_
 unfold zjW at hd
 split at hd
 ·rename_i ex
  cases hd
  generalize hr:Classical.choose ex=r
  have hsp:=Classical.choose_spec ex
  rw [hr] at hsp
  obtain ⟨s,cls,fs,fd,c,Ωa,fd1,c1,a,a1,a2,a3,a4,a5,a6,a7,a8,a9,a10,a11,rfl⟩:=hsp
  obtain ⟨ix,e1,_⟩:=zhp a3
  have hfd:ClF Ω.length fd:=(cl.cel s _ a2:ClFs _ fs).get e1
  refine ⟨s,f,_,a,Ωa ++ [c1],⟨cls,fs,fd,c,a2,a3,a4,rfl⟩,a5,⟨Ωa,c1,cls,_,fd1,rfl,a6,a7,by rw [zds,if_pos rfl],a8,fun k x hk hx=>?_,?_,by rw [zc1]⟩,a11,rfl⟩
  ·rcases a9 k x hk hx with z | z
   ·exact cl.cel k x z
   ·exact z
  ·rw [zc1]
   exact zhU (cl.cel s _ a2:ClFs _ fs) (by rcases a10 with z | z;exact z ▸ hfd;exact z)
 ·cases hd
section
variable {P:Program} {w:World} {K:PySem.W.Frag} {mg:Str→Option Value} {base:Heap}
structure FunD (K:PySem.W.Frag) (x qual:Str) (st:Stmt) (f T:Addr) (fd:FuncData):Prop where
 ex:∃ (oc:Value) (od:Option Addr) (kV doc pm:Value) (an:Option Addr) (cdv ct:Value) (osl:Array (Option Value)),
  fd=PySem.W.fnOf x qual (zar st) (zaj st) (zac st) (.ref T) kV doc pm an cdv ct∧K.lookup f=some ⟨oc,od, .func fd,osl⟩∧PySem.W.codeIn K cdv qual=true
structure zoc (K:PySem.W.Frag) (mg:Str→Option Value) (cls m qual:Str) (st:Stmt) (dv:Array Value):Prop where
 ex:∃ C f fd T o n,PySem.W.nsIn K mainGlobals cls=some (some (.ref C))∧mg cls=some (.ref C)∧Cls K C∧Meth K C m f∧FunD K m qual st f T fd∧K.lookup T=some o∧o.data = .seq dv n
theorem zbv.ofD {cls m qual:Str} {st:Stmt} {N ps:List Str} {k:Nat} {b:MS} {dv:Array Value} {ds:List Value} {dvs:List V} {das:List A} (h:zoc K mg cls m qual st dv) (hv:Vals dvs ds) (hd:∀ G ι,DenL K G ι dvs das) (S:zaq N ps (zac st))
  (bind:∀ (T:Addr) (kV doc pm:Value) (an:Option Addr) (cdv ct:Value) (us:List Value),us.length + ds.length=ps.length→∃ k,bindArgs (PySem.W.fnOf m qual (zar st) (zaj st) (zac st) (.ref T) kV doc pm an cdv ct) ⟨us,[]⟩ = seqItems? (.ref T) >>= k∧k (some dv)=pure (ps.zip (us ++ ds)))
  (hbody:∀ (f:Addr) (cdv:Value) (A:Around) (outer:List Env) (s:Shared) (H:Hp) (E:XK),Room k (A.deeper (envOfC qual (zac st) s.heap.objs.size f cdv)) →
   VSs (cxX P w K mg base N qual (zac st) f cdv A outer s H E) (fun _=>E) (zaj st) b):zbv P w K mg base cls m (k + 1) ps.length das (fnF N.length b):=by
 obtain ⟨C,f,fd,T,o,n,h1,_,h2,h3,F,hT,ho⟩:=h.ex
 obtain ⟨oc,od,kV,doc,pm,an,cdv,ct,osl,rfl,lk,hcd⟩:=F.ex
 refine ⟨C,f,_,ps,ds,dvs,h1,h2,h3,rfl,zrb lk hcd S (fun vs H Q E h=>h.1) fun A outer s H vs Q E hr hsp=>?_,fun s us hK hl=>?_,hv,hd⟩
 ·obtain ⟨t,p,q⟩:=hbody f cdv A outer s H E hr
  exact ⟨t,zo9 p,zj9 q hsp⟩
 ·obtain ⟨k',e1,e2⟩:=bind T kV doc pm an cdv ct us (by rw [← List.length_append];exact hl)
  exact BindsTo.of_defaults rfl (hK _ _ hT) ho e1 e2
end
end V2
namespace M
open PySem V2
noncomputable def zby:MS :=
 (sSeq (zjF ["Window"] "reach" (vVar 0) (vVar 1))
  (sSeq (zjF ["Window"] "block" (vVar 0) (vVar 2))
  (sSeq (zjF ["Window"] "keep" (vVar 0) (vVar 3))
  (sSeq (zjF ["Window"] "many" (vVar 0) (cI 0))
  (sSeq (zkz ["Window"] 0 "full" (vLst true a0))
  (zkz ["Window"] 0 "newest" (vLst true a0)))))))
noncomputable def za3:List A→Mo A:=fnF 4 zby
noncomputable def zcj:MS :=
 (sSeq (sAsg (vOp (gAdd false) (vOp (gMul) (vOp (gSub) (zgK ["Window"] 0 "full") (cI 1)) (vFld ["Window"] "block" (vVar 0))) (zgK ["Window"] 0 "newest")) (gN 1))
  (sIf (zaP (vOp gGe (vVar 1) (vFld ["Window"] "reach" (vVar 0))))
   (zgU 0 "full" (sExp (vBM zrS (vFld ["Window"] "full" (vVar 0)) (zab (cI 0) a0))))
   sNx))
noncomputable def zbc:List A→Mo A:=fnF 2 zcj
noncomputable def zc0:MS :=
 (sSeq (sAsg (vCl zhF (zab (vFld ["Window"] "reach" (vVar 0)) (zab (vFld ["Window"] "many" (vVar 0)) a0))) (gN 2))
  (sSeq (sIf (zaP (vOp (gIsN false) (vVar 1) cN))
   (sAsg (vVar 2) (gN 1))
   sNx)
  (sSeq (sIf (vOrT (zaP (vOp gLt (vVar 1) (cI 1))) (zaP (vOp gGt (vVar 1) (vVar 2))))
   (zgY "NoPlace" (zab (cS "last goes from 1 to the length and to how many were put in") a0))
   sNx)
  (sRet (vVar 1)))))
noncomputable def zao:List A→Mo A:=fnF 3 zc0
noncomputable def zjV:Ev→Mo A :=
 (vLC false 1 [] (vSeq (vVar 0)) (gN 0) yesM (vOp gIx (vVar 0) (cI 0)))
noncomputable def ziT:MS :=
 (sRet (vOp (gSub) (vCl gSum (zab zjV a0)) (vVar 1)))
noncomputable def zb9:List A→Mo A:=fnF 2 ziT
noncomputable def zeA:MS :=
 (sSeq (sAsg (vOp (gAdd false) (cI 1) (vOp (gMod) (vVar 0) (cI 40))) (gN 1))
  (sSeq (sAsg (vOp (gAdd false) (cI 1) (vOp (gMod) (vOp (gDiv) (vVar 0) (cI 40)) (cI 12))) (gN 2))
  (sSeq (sIf (zaP (vOp gEq (vOp (gMod) (vOp (gDiv) (vVar 0) (cI 480)) (cI 6)) (cI 0)))
   (sAsg (vOp (gAdd false) (cI 1) (vOp (gMod) (vOp (gDiv) (vVar 0) (cI 2880)) (cI 40))) (gN 2))
   sNx)
  (sRet (vTup (zab (vVar 1) (zab (vCl zmO (zab (vVar 2) (zab (vOp (gDiv) (vVar 1) (cI 12)) a0))) (zab (vOp (gAdd false) (cI 1) (vOp (gMod) (vOp (gDiv) (vVar 0) (cI 115200)) (cI 12))) a0))))))))
noncomputable def zbA:List A→Mo A:=fnF 3 zeA
noncomputable def zhl:MS :=
 (sSeq (sAsg (vOp (gDiv) (vCl zwf (zab (vCl (zat 2 zbg) (zab (vVar 0) (zab (vVar 3) a0))) a0)) (cI 2)) (gN 5))
   (sSeq (sExp (vBM zcS (vVar 1) (zab (vTup (zab (vOp gIx (vVar 4) (cI 0)) (zab (vOp (gSub) (vVar 5) (vVar 2)) a0))) a0)))
   (sAsg (vVar 5) (gN 2))))
noncomputable def zi5:MS :=
 (sSeq (sAsg (vLst true a0) (gN 1))
  (sSeq (sAsg (cI 0) (gN 2))
  (sSeq (sFor (zuW (vOp gIx (vVar 0) (cI 3))) (zeh 2 (zaG (gN 3) (zaG (gN 4) zeF))) zhl)
  (sRet (vFrz 1)))))
noncomputable def zfx:List A→Mo A:=fnF 6 zi5
noncomputable def zfn:MS :=
 (sSeq (sExp (vBM zcS (vVar 1) (zab (vTup (zab (vVar 2) (zab (vOp gIx (vVar 3) (cI 0)) (zab (vOp gIx (vVar 3) (cI 0)) a0)))) a0)))
   (sIf (zaP (vOp gNe (vOp gIx (vVar 3) (cI 0)) (vOp gIx (vVar 3) (cI 1))))
    (sExp (vBM zcS (vVar 1) (zab (vTup (zab (vVar 2) (zab (vOp gIx (vVar 3) (cI 1)) (zab (vOp gIx (vVar 3) (cI 1)) a0)))) a0)))
    sNx))
noncomputable def zi3:MS :=
 (sSeq (sAsg (vLst true a0) (gN 1))
  (sSeq (sFor (vDIt (vCl (zat 1 zez) (zab (vVar 0) a0))) (zeh 2 (zaG (gN 2) (zaG (gN 3) zeF))) zfn)
  (sRet (vTup (zab (vCl (zat 1 zd1) (zab (vVar 0) a0)) (zab (cI 0) (zab (cI 0) (zab (vFrz 1) a0))))))))
noncomputable def zhA:List A→Mo A:=fnF 4 zi3
noncomputable def zhE:Ev→Mo A :=
 (vLC false 1 [] (vSeq (vVar 0)) (gN 0) yesM (vTup (zab (vVar 0) (zab (cI 1) a0))))
noncomputable def zih:MS :=
 (sRet (vCl (zat 1 zhA) (zab zhE a0)))
noncomputable def zaR:List A→Mo A:=fnF 1 zih
noncomputable def zeP:MS :=
 (sSeq (zjF ["Window"] "many" (vVar 0) (vOp (gAdd false) (vFld ["Window"] "many" (vVar 0)) (cI 1)))
  (sSeq (sExp (zpD ["Window"] 0 "newest" (vVar 1)))
  (sSeq (sIf (zaP (vOp gEq (zgK ["Window"] 0 "newest") (vFld ["Window"] "block" (vVar 0))))
   (sSeq (zgU 0 "full" (zgU 0 "newest" (sExp (vBM zcS (vFld ["Window"] "full" (vVar 0)) (zab (vCl (zat 2 zbT) (zab (vCl (zat 1 zaR) (zab (vFld ["Window"] "newest" (vVar 0)) a0)) (zab (vFld ["Window"] "keep" (vVar 0)) a0))) a0)))))
   (zkz ["Window"] 0 "newest" (vLst true a0)))
   sNx)
  (sExp (zcr "drop_oldest" [("Window",zce 1 [] zbc)] (vVar 0) a0)))))
noncomputable def zdy:List A→Mo A:=fnF 2 zeP
noncomputable def zdw:MS :=
 (sSeq (zgU 0 "newest" (sAsg (vSl false (vFld ["Window"] "newest" (vVar 0)) (ziw (vNeg (vVar 1))) sl0) (gN 2)))
  (sSeq (sAsg (vOp (gDiv) (vOp (gSub) (vOp (gAdd false) (vOp (gSub) (vVar 1) (vCl gLen (zab (vVar 2) a0))) (vFld ["Window"] "block" (vVar 0))) (cI 1)) (vFld ["Window"] "block" (vVar 0))) (gN 3))
  (sRet (zjW 0 "full" (vOp (gAdd false) (vSl false (vFld ["Window"] "full" (vVar 0)) (ziw (vOp (gSub) (vCl gLen (zab (vFld ["Window"] "full" (vVar 0)) a0)) (vVar 3))) sl0) (vLst false (zab (vCl (zat 1 zaR) (zab (vVar 2) a0)) a0)))))))
noncomputable def zaC:List A→Mo A:=fnF 4 zdw
noncomputable def zbP:MS :=
 (sExp (vBM zni (vVar 4) (zab (vCl (zat 1 zfx) (zab (vVar 5) a0)) a0)))
noncomputable def zaL:MS :=
 (sSeq (sAsg (zcr "look_last" [("Window",zce 2 [] zao)] (vVar 0) (zab (vVar 2) a0)) (gN 2))
  (sSeq (sIf (vOrT (zaP (vOp gLt (vVar 1) (cI 1))) (zaP (vOp gGt (vVar 1) (vVar 2))))
   (zgY "NoPlace" (zab (cS "the places go from 1 to last") a0))
   sNx)
  (sSeq (sAsg (zcr "parts" [("Window",zce 2 [] zaC)] (vVar 0) (zab (vVar 2) a0)) (gN 3))
  (sSeq (sAsg (vLst true a0) (gN 4))
  (sSeq (sFor (vSeq (vVar 3)) (gN 5) zbP)
  (sFrz 4 (sRet (vCl (zat 2 zde) (zab (vVar 4) (zab (vOp (gAdd false) (vVar 1) (vOp (gDiv) (vCl (zat 2 zb9) (zab (vVar 3) (zab (vVar 2) a0))) (cI 2))) a0))))))))))
noncomputable def zak:List A→Mo A:=fnF 6 zaL
noncomputable def zeq:Ev→Mo A :=
 (vLC false 1 [] (vSeq (vVar 2)) (gN 0) yesM (vOp gIx (vVar 0) (cI 1)))
noncomputable def zdz:MS :=
 (sSeq (sAsg (zcr "look_last" [("Window",zce 2 [] zao)] (vVar 0) (zab (vVar 1) a0)) (gN 1))
  (sSeq (sAsg (zcr "parts" [("Window",zce 2 [] zaC)] (vVar 0) (zab (vVar 1) a0)) (gN 2))
  (sRet (vOp (gAdd false) (vCl (zat 2 zb9) (zab (vVar 2) (zab (vVar 1) a0))) (vCl gSum (zab zeq a0))))))
noncomputable def za5:List A→Mo A:=fnF 3 zdz
noncomputable def zcz:Ev→Mo A :=
 (vLC false 1 [5] (vSeq (vVar 7)) (gN 0) (zaP (vOp gLt (vVar 0) (vVar 1))) (vVar 0))
noncomputable def zbD:Ev→Mo A :=
 (vLC false 1 [5] (vSeq (vVar 7)) (gN 0) (zaP (vOp gLe (vVar 0) (vVar 1))) (vVar 0))
noncomputable def zct:MS :=
 (sSeq (sIf (zaP (vOp (gIsN false) (vVar 4) cN))
   (sSeq (sAsg (zcr "so_manieth" [("Window",zce 3 [.non] zak)] (vVar 0) (zab (vVar 3) a0)) (gN 5))
   (sSeq (sAsg (zcr "off" [("Window",zce 2 [.non] za5)] (vVar 0) a0) (gN 6))
   (sAsg (vCl zhF (zab (vVar 1) (zab (vCl gLen (zab (vVar 2) a0)) a0))) (gN 4))))
   (sSeq (sAsg (zcr "so_manieth" [("Window",zce 3 [] zak)] (vVar 0) (zab (vVar 3) (zab (vVar 4) a0))) (gN 5))
   (sAsg (zcr "off" [("Window",zce 2 [] za5)] (vVar 0) (zab (vVar 4) a0)) (gN 6))))
  (sSeq (sIf (vOrT (zjl (zaP (vCl (zat 1 zbB) (zab (vVar 5) a0)))) (vOrT (zjl (zaP (vCl (zat 1 zbB) (zab (vVar 6) a0)))) (vOrT (zaP (vOp gLt (vVar 6) (cI 0))) (zaP (vOp (gMem true) (vVar 5) (vVar 2))))))
   (sRet (cB false))
   sNx)
  (sSeq (sAsg (vSl false (vVar 2) (ziw (vOp (gSub) (vCl gLen (zab (vVar 2) a0)) (vVar 4))) sl0) (gN 7))
  (sSeq (sAsg (vCl gLen (zab zcz a0)) (gN 8))
  (sRet (vAnd (vOp gLt (vVar 8) (vOp (gAdd false) (vVar 3) (vVar 6))) (vOp gGe (vCl gLen (zab zbD a0)) (vOp (gSub) (vVar 3) (vVar 6)))))))))
noncomputable def zbq:List A→Mo A:=fnF 9 zct
noncomputable def zcl:Addr→Exc→MS :=
 fun p e=>(sSeq (sAsg (vCl (gIsX p (xtab ["NoPlace", "NoRow"] ["RankError", "NoRow", "NoPlace", "NoPouch", "NoSize", "Wrong", "NoTimes", "Unlike", "NoText"] e.cls) (xtt ["NoPlace", "NoRow"] e.cls)) (zab (vVar 4) (zab (vTup (zab (cG "NoPouch") (zab (cG "NoRow") (zab (cG "NoSize") (zab (cG "NoText") (zab (cG "NoTimes") (zab (cG "Unlike") (zab (cG "Wrong") a0)))))))) a0))) (gN 5))
   (sAsg (vLst false (zab (vCl (gIsX p (xtab ["NoPlace", "NoRow"] ["RankError", "NoRow", "NoPlace", "NoPouch", "NoSize", "Wrong", "NoTimes", "Unlike", "NoText"] e.cls) (xtt ["NoPlace", "NoRow"] e.cls)) (zab (vVar 4) (zab (cG "RankError") a0))) (zab (vCl (gIsX p (xtab ["NoPlace", "NoRow"] ["RankError", "NoRow", "NoPlace", "NoPouch", "NoSize", "Wrong", "NoTimes", "Unlike", "NoText"] e.cls) (xtt ["NoPlace", "NoRow"] e.cls)) (zab (vVar 4) (zab (cT "ValueError") a0))) (zab (vVar 5) a0)))) (gN 3)))
noncomputable def zcf:MS :=
 (sExp (zcr "so_manieth" [("Window",zce 3 [] zak)] (vVar 0) (zab (vVar 1) (zab (vVar 2) a0))))
noncomputable def zbh:MS :=
 (sSeq (sAsg cN (gN 3))
  (sSeq (sTry 4 (fun z=>xtab ["NoPlace", "NoRow"] ["RankError", "NoRow", "NoPlace", "NoPouch", "NoSize", "Wrong", "NoTimes", "Unlike", "NoText"] z "NoPlace" == some true) zcf zcl)
  (sRet (vOp gEq (vVar 3) (vLst false (zab (cB true) (zab (cB true) (zab (cB false) a0))))))))
noncomputable def zaO:List A→Mo A:=noX (fnF 6 zbh)
noncomputable def zd2:MS :=
 (sIf (zjl (zaP (vCl (zat 3 zaO) (zab (vVar 0) (zab (vVar 5) (zab (vVar 6) a0))))))
    (sRet (cB false))
    sNx)
noncomputable def ze9:Ev→Mo A :=
 (vLC false 1 [3,7] (zok (zab (cI 6) a0)) (gN 0) yesM (vOp (gAdd false) (cI 1) (vOp (gMod) (vCl (noX (zat 2 zbi)) (zab (vVar 1) (zab (vVar 0) a0))) (vVar 2))))
noncomputable def zfb:MS :=
 (sIf (zjl (zaP (vCl (zat 5 zbq) (zab (vVar 0) (zab (vVar 1) (zab (vVar 2) (zab (vVar 5) (zab (vVar 6) a0))))))))
     (sRet (cB false))
     sNx)
noncomputable def zfG:MS :=
 (sSeq (sAsg (vVar 4) (gN 7))
   (sSeq (sIf (zaP (vOp (gIsN true) (vVar 6) cN))
    (sAsg (vVar 6) (gN 7))
    sNx)
   (sSeq (sFor (vSeq (vOp (gAdd false) (vLst false (zab (cI 1) (zab (vVar 7) (zab (vOp (gDiv) (vOp (gAdd false) (vVar 7) (cI 1)) (cI 2)) a0)))) ze9)) (gN 5) zfb)
   (sIf (vOrT (zjl (zaP (vCl (zat 3 zaO) (zab (vVar 0) (zab (vOp (gAdd false) (vVar 7) (cI 1)) (zab (vVar 6) a0)))))) (zjl (zaP (vCl (zat 3 zaO) (zab (vVar 0) (zab (vOp (gSub) (cI 0) (vOp (gMod) (vVar 3) (cI 9))) (zab (vVar 6) a0)))))))
    (sRet (cB false))
    sNx))))
noncomputable def ze5:MS :=
 (sSeq (sAsg (vCl zhF (zab (vVar 1) (zab (vCl gLen (zab (vVar 2) a0)) a0))) (gN 4))
  (sSeq (sFor (vSeq (vLst false (zab (vTup (zab (cI 1) (zab (vOp (gAdd false) (vVar 4) (cI 1)) a0))) (zab (vTup (zab (cI 1) (zab (cI 0) a0))) (zab (vTup (zab (cI 1) (zab (vOp (gSub) (vOp (gSub) (cI 0) (cI 1)) (vOp (gMod) (vVar 3) (cI 9))) a0))) (zab (vTup (zab (cI 0) (zab (vVar 4) a0))) (zab (vTup (zab (vOp (gAdd false) (vVar 4) (cI 1)) (zab (vVar 4) a0))) (zab (vTup (zab (vOp (gAdd false) (vVar 4) (cI 1)) (zab cN a0))) a0)))))))) (zeh 2 (zaG (gN 5) (zaG (gN 6) zeF))) zd2)
  (sSeq (sIf (zaP (vOp gEq (vVar 2) (vLst false a0)))
   (sRet (vCl (zat 3 zaO) (zab (vVar 0) (zab (cI 1) (zab cN a0)))))
   sNx)
  (sSeq (sFor (vSeq (vLst false (zab cN (zab (vVar 4) (zab (vOp (gAdd false) (cI 1) (vOp (gMod) (vVar 3) (vVar 4))) a0))))) (gN 6) zfG)
  (sRet (cB true))))))
noncomputable def zgy:List A→Mo A:=fnF 8 ze5
noncomputable def zdF:MS :=
 (sSeq (sExp (vBM zcS (vVar 6) (zab (vCl (zat 2 zas) (zab (vCl (zat 2 zbi) (zab (vVar 8) (zab (vOp (gAdd false) (cI 1) (vVar 9)) a0))) (zab (vVar 1) a0))) a0)))
    (sExp (zcr "put" [("Window",zce 2 [] zdy)] (vVar 5) (zab (vOp gIx (vVar 6) (vNeg (cI 1))) a0))))
noncomputable def zeK:MS :=
 (sSeq (sAsg (vCl (zat 3 zdv) (zab (vVar 0) (zab (cI 5) (zab (vVar 7) a0)))) (gN 8))
   (sSeq (sFor (zok (zab (vOp (gAdd false) (cI 1) (vOp (gMod) (vVar 8) (cI 3))) a0)) (gN 9) zdF)
   (sSeq (sAsg (vCl zhF (zab (vVar 2) (zab (vCl gLen (zab (vVar 6) a0)) a0))) (gN 10))
   (sSeq (sAsg (vOp gIx (vLst false (zab cN (zab (vVar 10) (zab (vOp (gAdd false) (cI 1) (vOp (gMod) (vCl (zat 2 zbi) (zab (vVar 8) (zab (cI 9) a0))) (vVar 10))) a0)))) (vOp (gMod) (vOp (gDiv) (vVar 8) (cI 27)) (cI 3))) (gN 11))
   (sSeq (sAsg (vVar 10) (gN 12))
   (sSeq (sIf (zaP (vOp (gIsN true) (vVar 11) cN))
    (sAsg (vVar 11) (gN 12))
    sNx)
   (sSeq (sAsg (vOp (gAdd false) (cI 1) (vOp (gMod) (vCl (zat 2 zbi) (zab (vVar 8) (zab (cI 10) a0))) (vVar 12))) (gN 13))
   (sIf (zyV (zaP (vOp gEq (vOp (gMod) (vVar 7) (cI 3)) (cI 0))) (zjl (zaP (vCl (zat 5 zbq) (zab (vVar 5) (zab (vVar 2) (zab (vVar 6) (zab (vVar 13) (zab (vVar 11) a0)))))))))
    (sRet (cB false))
    sNx))))))))
noncomputable def zhW:MS :=
 (sSeq (sAsg (vOp (gMod) (vCl (zat 2 zba) (zab (vVar 0) (zab (cI 0) a0))) (cI 5)) (gN 1))
  (sSeq (sAsg (vCl (zat 1 zbA) (zab (vCl (zat 2 zba) (zab (vVar 0) (zab (cI 1) a0))) a0)) (zeh 3 (zaG (gN 2) (zaG (gN 3) (zaG (gN 4) zeF)))))
  (sSeq (sAsg (vCl (zqg "Window" 4 za3) (zab (vVar 2) (zab (vVar 3) (zab (vVar 4) a0)))) (gN 5))
  (sSeq (sAsg (vLst true a0) (gN 6))
  (sSeq (sFor (zok (zab (vCl (zat 3 zdA) (zab (vVar 0) (zab (cI 5) (zab (cI 58) a0)))) a0)) (gN 7) zeK)
  (sRet (vCl (zat 4 zgy) (zab (vVar 5) (zab (vVar 2) (zab (vVar 6) (zab (vCl (zat 2 zba) (zab (vVar 0) (zab (cI 3) a0))) a0)))))))))))
noncomputable def zmc:List A→Mo A:=fnF 14 zhW
end M
namespace V2
open PySem L2
@[simp] theorem zpa (neg:Bool) (i j:Int) (Ω:Sto):gEqB neg (.int i) (.int j) Ω=some (.ok (.bl (if neg then !(i == j) else i == j)),Ω):=by
 simp [gEqB,res,pur,eqA]
@[simp] theorem zvZ (i j:Int) (Ω:Sto):gEq (.int i) (.int j) Ω=some (.ok (.bl (i == j)),Ω):=zpa false i j Ω
@[simp] theorem zzW (i j:Int) (Ω:Sto):gNe (.int i) (.int j) Ω=some (.ok (.bl (!(i == j))),Ω):=zpa true i j Ω
theorem zkT {i j:Int} (h0 : -18446744073709551616 < i) (h1:i < 18446744073709551616):CMul i j := .inl ⟨h0,h1⟩
theorem zqE {i j:Int} (h0 : -18446744073709551616 < j) (h1:j < 18446744073709551616):CMul i j := .inr ⟨h0,h1⟩
@[simp] theorem zAg {α:Type} (x:α) (l:List α):atI (x :: l) 0=some x:=zhM _
@[simp] theorem zAn {α:Type} (x y:α) (l:List α):atI (x :: y :: l) 1=some y:=znI _
@[simp] theorem zAh {α:Type} (x y z:α) (l:List α):atI (x :: y :: z :: l) 2=some z:=zjo _ 2
@[simp] theorem zAm {α:Type} (x y z u:α) (l:List α):atI (x :: y :: z :: u :: l) 3=some u:=zjo _ 3
end V2
namespace M
open PySem L2 V2
def mixI (c k:Int):Int :=
 ((c + 1) * (48271 + 118 * k) % 2147483629 / 977 * 16807 + (c + 1) * (48271 + 118 * k) % 2147483629 * (k * k + 7) + k) % 2147483587
theorem mix0 (c k:Int):0 ≤ mixI c k:=Int.emod_nonneg _ (by decide)
theorem mix1 (c k:Int):mixI c k < 2147483587:=Int.emod_lt_of_pos _ (by decide)
theorem zn9 (c k:Int) (Ω:Sto) (hc:0 ≤ c) (hc1:c < 8589934592) (hk:0 ≤ k) (hk1:k < 1048576):zbi [.int c, .int k] Ω=some (.ok (.int (mixI c k)),Ω):=by
 have f0:=Int.emod_nonneg ((c + 1) * (48271 + 118 * k)) (show (2147483629:Int) ≠ 0 by decide)
 have f1:=Int.emod_lt_of_pos ((c + 1) * (48271 + 118 * k)) (show (0:Int) < 2147483629 by decide)
 have h1:CMul (c + 1) (48271 + 118 * k):=zkT (by omega) (by omega)
 have h2:CMul k k:=zkT (by omega) (by omega)
 have h3:∀ j,CMul ((c + 1) * (48271 + 118 * k) % 2147483629) j:=fun j=>zkT (by omega) (by omega)
 have h4:∀ j,CMul j 16807:=fun j=>zqE (by decide) (by decide)
 have h5:∀ j,CMul 118 j:=fun j=>zkT (by decide) (by decide)
 have h6:∀ j,CDiv j 977:=fun j=>⟨by decide,by decide⟩
 simp [zbi,zkS,h1,h2,h3,h4,h5,h6,mixI]
def zkH (ns:List Int) (k:Int):Int:=mixI (if k < ns.length then ns[k.toNat]?.getD 0 % 2147483647 else 0) (k + 101)
theorem zuz (ns:List Int) (k:Int):0 ≤ zkH ns k:=mix0 _ _
theorem zyH (ns:List Int) (k:Int):zkH ns k < 2147483587:=mix1 _ _
theorem znc (ns:List Int) (k:Int) (Ω:Sto) (hk:0 ≤ k) (hk1:k < 1000000):zba [.scr ns, .int k] Ω=some (.ok (.int (zkH ns k)),Ω):=by
 by_cases h:k < (ns.length:Int)
 ·obtain ⟨n,rfl⟩:=Int.eq_ofNat_of_zero_le hk
  have hn:n < ns.length:=by omega
  have e:atI (ns.map A.int) (n:Int)=some (.int ns[n]):=by rw [zg6];simp [hn]
  have f0:=Int.emod_nonneg ns[n] (show (2147483647:Int) ≠ 0 by decide)
  have f1:=Int.emod_lt_of_pos ns[n] (show (0:Int) < 2147483647 by decide)
  have m:=fun Ω=>zn9 (ns[n] % 2147483647) (n + 101) Ω f0 (by omega) (by omega) (by omega)
  simp [zba,zhg,h,e,m,zkH,hn]
 ·have m:=fun Ω=>zn9 0 (k + 101) Ω (by decide) (by decide) (by omega) (by omega)
  simp [zba,zhg,h,m,zkH]
end M
namespace V2
open PySem L2
theorem zis {f:A→A→Bool}:∀ (xs:List A),(∀ x ∈ xs,f x x=true)→zmL f xs xs=true
 | [],_=>rfl
 | x :: xs,h=>by simp only [zmL,h x (List.mem_cons_self ..),Bool.true_and];exact zis xs fun y hy=>h y (List.mem_cons_of_mem _ hy)
theorem ztt:∀ (n:Nat) (a:A),pur n a=true→eqA n a a=true:=by
 intro n
 induction n with
 | zero=>intro a h;cases a <;> first | (simp [eqA];done) | (simp [pur] at h)
 | succ n ih =>
  intro a h
  cases a with
  | tup ds=>simp only [pur,List.all_eq_true] at h;simp only [eqA];exact zis ds fun x hx=>ih x (h x hx)
  | lst ds=>simp only [pur,List.all_eq_true] at h;simp only [eqA];exact zis ds fun x hx=>ih x (h x hx)
  | int i=>simp [eqA]
  | bl i=>simp [eqA]
  | str i=>simp [eqA]
  | non=>simp [eqA]
  | _=>simp [pur] at h
theorem zjZ {Ω:Sto} {n:Nat} {a:A} (h:pur 8 a=true):res Ω n a=some a:=by
 cases n <;> simp [res,h]
theorem zuu {a b c:A} {Ω:Sto} (ha:res Ω 6 a=some c) (hb:res Ω 6 b=some c) (hc:pur 8 c=true):gEq a b Ω=some (.ok (.bl true),Ω):=by
 simp [gEq,gEqB,ha,hb,hc,ztt 8 c hc]
theorem zoG {Ω:Sto} {n k:Nat} {ds:List A} (h:Ω[k]? = some (.lst ds)):res Ω (n + 1) (.cel k)=(mapO (res Ω n) ds).map .lst:=by
 rw [res,if_neg (by simp [pur])]
 simp [h]
theorem zlV {Ω:Sto} {n:Nat}:∀ (ds:List A),ds.all (pur 8)=true→mapO (res Ω n) ds=some ds
 | [],_=>rfl
 | d :: ds,h=>by
  simp only [List.all_cons,Bool.and_eq_true] at h
  simp [mapO,zjZ h.1,zlV ds h.2]
abbrev E:=Int × Int × Int
def encE (e:E):A := .tup [.int e.1, .int e.2.1, .int e.2.2]
def encL (es:List E):List A:=es.map encE
@[simp] theorem zzx (n:Nat) (i:Int):pur n (.int i)=true:=by cases n <;> rfl
def encP (s l d:Int) (es:List E):A := .tup [.int s, .int l, .int d, .lst (encL es)]
@[simp] theorem zzh (es:List E):(encL es).length=es.length:=by simp [encL]
end V2
namespace M
open PySem L2 V2
end M
namespace M
open PySem L2 V2
def loE (es:List E) (i:Nat):Int:=if i=0 then 0 else (es[i - 1]?.getD (0,0,0)).2.1
def hiE (s:Int) (es:List E) (i:Nat):Int:=match es[i]? with
 | some e=>e.2.2 - 1
 | none=>s
theorem zlw (es:List E) (i:Nat):(encL es)[i]? = es[i]?.map encE:=by simp [encL]
theorem zti {α:Type} (xs:List α) (i:Nat):atI xs (i:Int)=xs[i]?:=zg6 xs i
theorem zto {α:Type} (xs:List α) (i:Nat) (h:0 < i):atI xs ((i:Int) - 1)=xs[i - 1]?:=by
 rw [show ((i:Int) - 1)=((i - 1:Nat):Int) by omega];exact zg6 xs _
theorem ztL (s l d:Int) (es:List E) (i:Nat) (Ω:Sto) (h:i ≤ es.length):zbg [encP s l d es, .int i] Ω=some (.ok (.tup [.int (loE es i), .int (hiE s es i)]),Ω):=by
 have h2:(2:Nat) ≤ sizeLine:=by decide
 by_cases h0:i=0
 ·subst h0
  cases es with
  | nil=>simp [zbg,zcq,encP,encL,loE,hiE,h2]
  | cons e es=>simp [zbg,zcq,encP,encL,encE,loE,hiE,h2]
 ·have e1:atI (encL es) ((i:Int) - 1)=some (encE (es[i - 1]?.getD (0,0,0))):=by
   rw [zto _ _ (by omega),zlw,List.getElem?_eq_getElem (by omega)];rfl
  have hp:0 < i:=by omega
  by_cases hl:i < es.length
  ·have e2:atI (encL es) (i:Int)=some (encE es[i]):=by rw [zti,zlw,List.getElem?_eq_getElem hl];rfl
   have hl':(i:Int) < es.length:=by omega
   simp [zbg,zcq,encP,e1,e2,hp,hl,hl',h2,encE,loE,hiE,h0]
  ·have hl':¬ (i:Int) < es.length:=by omega
   simp [zbg,zcq,encP,e1,hp,hl,hl',h2,encE,loE,hiE,h0]
theorem zlP (es:List E) (i:Nat) (h:i < es.length):loE es (i + 1)=es[i].2.1:=by simp [loE,h]
theorem zu0 (s:Int) (es:List E) (i:Nat) (h:i < es.length):hiE s es i=es[i].2.2 - 1:=by simp [hiE,h]
theorem zr9 (s:Int) (es:List E):hiE s es es.length=s:=by simp [hiE]
theorem zwe (n:Nat) (e:E):Cl n (encE e):=by simp [encE,Cl,ClL]
theorem zlW (n:Nat):∀ (es:List E),ClL n (encL es)
 | []=>by simp [encL,ClL]
 | e :: es=>by simp only [encL,List.map_cons,ClL];exact ⟨zwe n e,zlW n es⟩
theorem zwI (n:Nat) (s l d:Int) (es:List E):Cl n (encP s l d es):=by simp [encP,Cl,ClL,zlW]
end M
namespace M
open PySem L2 V2
def runE (n t:Int):List E:=if t=1 then [(n,1,1)] else [(n,1,1),(n,t,t)]
end M
namespace M
open PySem L2 V2
def Ch (l s:Int):Int→Int→Option Int→List E→Prop
 | lo,hp,_,[]=>lo=s∧hp=s
 | lo,hp,pr,e :: r=>(∀ p,pr=some p→p ≤ e.1)∧(pr=some e.1∨e.2.2 ≤ lo + l + 1)∧lo < e.2.1∧hp < e.2.2∧e.2.1 ≤ e.2.2∧e.2.2 - e.2.1 ≤ l∧Ch l s e.2.1 e.2.2 (some e.1) r
def zyu (es:List E):Prop:=∀ e r,es=e :: r→e.2.1=1∧e.2.2=1
structure GF (s l d:Int) (es:List E):Prop where
 s0:0 ≤ s
 l0:0 ≤ l
 d0:0 ≤ d
 fst:zyu es
 ch:Ch l s 0 0 none es
theorem Ch.bound {l s:Int}:∀ {es:List E} {lo hp:Int} {pr:Option Int},Ch l s lo hp pr es→lo ≤ s∧hp ≤ s
 | [],_,_,_,h=>⟨Int.le_of_eq h.1,Int.le_of_eq h.2⟩
 | e :: r,_,_,_,h=>by
  obtain ⟨_,_,h3,h4,_,_,h7⟩:=h
  have:=Ch.bound h7
  omega
end M
namespace M
open PySem L2 V2
def zha (l:Int) (k y:E):Bool:=decide (y.1=k.1) || decide (y.2.2 ≤ k.2.1 + l + 1)
def zdV (l:Int):E→List E→List E
 | _,[]=>[]
 | k,x :: r=>match r with
  | []=>[x]
  | y :: _=>if zha l k y=true then zdV l k r else x :: zdV l x r
def thin (l:Int):List E→List E
 | []=>[]
 | e :: r=>e :: zdV l e r
theorem zea (l:Int) (k x y:E) (r:List E):zdV l k (x :: y :: r)=if zha l k y=true then zdV l k (y :: r) else x :: zdV l x (y :: r):=rfl
theorem zek (l:Int) (k y:E):zha l k y=true↔(y.1=k.1∨y.2.2 ≤ k.2.1 + l + 1):=by simp [zha]
theorem zoh {l0 l s:Int} (hll:l0 ≤ l):∀ (xs:List E) (k:E) (pz lz mz:Int),Ch l0 s lz mz (some pz) xs→k.1 ≤ pz→k.2.1 ≤ lz→k.2.2 ≤ mz→(xs=[]→k.2.1=lz∧k.2.2=mz)→(∀ x r,xs=x :: r→zha l k x=true)→Ch l s k.2.1 k.2.2 (some k.1) (zdV l k xs)
 | [],k,pz,lz,mz,h,_,_,_,he,_=>by
  obtain ⟨a,b⟩:=he rfl
  exact ⟨a.trans h.1,b.trans h.2⟩
 | [x],k,pz,lz,mz,h,h1,h2,h3,_,hn=>by
  obtain ⟨a1,a2,a3,a4,a5,a6,a7⟩:=h
  have n:=(zek l k x).mp (hn x [] rfl)
  have:=a1 pz rfl
  refine ⟨fun p hp=>(by cases hp;omega),?_,by omega,by omega,a5,by omega,a7⟩
  rcases n with n | n
  ·left;rw [n]
  ·right;exact n
 | x :: y :: r,k,pz,lz,mz,h,h1,h2,h3,_,hn=>by
  obtain ⟨a1,a2,a3,a4,a5,a6,a7⟩:=h
  have hx:=a1 pz rfl
  rw [zea]
  by_cases hy:zha l k y=true
  ·rw [if_pos hy]
   exact zoh hll (y :: r) k x.1 x.2.1 x.2.2 a7 (by omega) (by omega) (by omega) (fun e=>by cases e) (fun x' r' e=>by cases e;exact hy)
  ·rw [if_neg hy]
   have n:=(zek l k x).mp (hn x _ rfl)
   have q:=zoh hll (y :: r) x x.1 x.2.1 x.2.2 a7 (Int.le_refl _) (Int.le_refl _) (Int.le_refl _) (fun e=>by cases e) (fun x' r' e=>by
    cases e
    rw [zek]
    rcases a7.2.1 with z | z
    ·left;exact (Option.some.inj z).symm
    ·right;omega)
   refine ⟨fun p hp=>(by cases hp;omega),?_,by omega,by omega,a5,by omega,q⟩
   rcases n with n | n
   ·left;rw [n]
   ·right;exact n
theorem zwG {s l d l':Int} {es:List E} (h:GF s l d es) (hl:l ≤ l'):GF s l' (d + 1) (thin l' es):=by
 refine ⟨h.s0,by have:=h.l0;omega,by have:=h.d0;omega,?_,?_⟩
 ·intro e r he
  cases es with
  | nil=>cases he
  | cons x xs =>
   simp only [thin,List.cons.injEq] at he
   rw [← he.1]
   exact h.fst x xs rfl
 ·cases es with
  | nil=>exact h.ch
  | cons x xs =>
   obtain ⟨a1,a2,a3,a4,a5,a6,a7⟩:=h.ch
   refine ⟨a1,?_,a3,a4,a5,by omega,zoh hl xs x x.1 x.2.1 x.2.2 a7 (Int.le_refl _) (Int.le_refl _) (Int.le_refl _) (fun _=>⟨rfl,rfl⟩) (fun y r e=>?_)⟩
   ·rcases a2 with a2 | a2
    ·cases a2
    ·right;omega
   ·subst e
    rw [zek]
    rcases a7.2.1 with z | z
    ·left;exact (Option.some.inj z).symm
    ·right;omega
theorem ziU (l:Int):∀ (xs:List E) (k c:E),c ∈ zdV l k xs→c ∈ xs
 | [],_,_,h=>by cases h
 | [x],_,_,h=>h
 | x :: y :: r,k,c,h=>by
  rw [zea] at h
  split at h
  ·exact List.mem_cons_of_mem _ (ziU l (y :: r) k c h)
  ·rcases List.mem_cons.mp h with z | z
   ·rw [z];exact List.mem_cons_self ..
   ·exact List.mem_cons_of_mem _ (ziU l (y :: r) x c z)
theorem zmj {l s:Int}:∀ (xs:List E) (lo hp:Int) (pr:Option Int),Ch l s lo hp pr xs→∀ c ∈ xs,hp < c.2.2∧lo < c.2.1∧c.2.2 - c.2.1 ≤ l∧c.2.1 ≤ s∧c.2.2 ≤ s
 | [],_,_,_,_,c,h=>by cases h
 | x :: r,lo,hp,pr,h,c,hc=>by
  obtain ⟨a1,a2,a3,a4,a5,a6,a7⟩:=h
  rcases List.mem_cons.mp hc with z | z
  ·subst z
   have:=a7.bound
   exact ⟨a4,a3,a6,this.1,this.2⟩
  ·obtain ⟨b1,b2,b3,b4,b5⟩:=zmj r _ _ _ a7 c z
   exact ⟨by omega,by omega,b3,b4,b5⟩
def Jmp (st:Int):E→List E→Prop
 | _,[]=>True
 | k,b :: r=>(∀ c r',r=c :: r'→k.2.1 + st + 2 ≤ c.2.1)∧Jmp st b r
theorem zk1 {l0 st s:Int}:∀ (xs:List E) (k:E) (lo hp:Int) (pr:Option Int),Ch l0 s lo hp pr xs→Jmp st k (zdV (l0 + st) k xs)
 | [],_,_,_,_,_=>trivial
 | [x],_,_,_,_,_=>⟨fun c r' e=>(by cases e),trivial⟩
 | x :: y :: r,k,lo,hp,pr,h=>by
  obtain ⟨a1,a2,a3,a4,a5,a6,a7⟩:=h
  rw [zea]
  by_cases hy:zha (l0 + st) k y=true
  ·rw [if_pos hy]
   exact zk1 (y :: r) k _ _ _ a7
  ·rw [if_neg hy]
   refine ⟨fun c r' e=>?_,zk1 (y :: r) x _ _ _ a7⟩
   have hc:c ∈ y :: r:=ziU _ (y :: r) x c (by rw [e];exact List.mem_cons_self ..)
   have hm:=zmj _ _ _ _ a7 c hc
   have hge:y.2.2 ≤ c.2.2:=by
    rcases List.mem_cons.mp hc with z | z
    ·rw [z];exact Int.le_refl _
    ·obtain ⟨_,_,_,_,_,_,b7⟩:=a7
     have:=(zmj _ _ _ _ b7 c z).1
     omega
   have hn:¬ (y.1=k.1∨y.2.2 ≤ k.2.1 + (l0 + st) + 1):=fun z=>hy ((zek _ _ _).mpr z)
   have hn2:¬ y.2.2 ≤ k.2.1 + (l0 + st) + 1:=fun z=>hn (.inr z)
   omega
theorem zqA {st s:Int}:∀ (m:Nat) (k:E) (out:List E),Jmp st k out→(∀ c ∈ k :: out,c.2.1 ≤ s)→2 * m ≤ out.length→k.2.1 + m * (st + 2) ≤ s
 | 0,k,out,_,h,_=>by have:=h k (List.mem_cons_self ..);simpa using this
 | m + 1,k,out,j,h,hl=>by
  match out,j,hl with
  | [],_,hl=>simp at hl
  | [b],_,hl=>simp at hl;omega
  | b :: c :: r,j,hl =>
   obtain ⟨j1,j2⟩:=j
   have e:=j1 c r rfl
   have q:=zqA m c r j2.2 (fun z hz=>h z (List.mem_cons_of_mem _ (List.mem_cons_of_mem _ hz))) (by simp at hl;omega)
   have:((m + 1:Nat):Int) * (st + 2)=(m:Int) * (st + 2) + (st + 2):=by rw [Int.natCast_add,Int.add_mul];simp
   rw [this]
   omega
theorem zt5 {s l d:Int} {es:List E} (h:GF s l d es) (keep:Nat) (hk:1 ≤ keep):(thin (l + s / keep) es).length ≤ 2 * keep:=by
 cases es with
 | nil=>simp [thin]
 | cons x xs =>
  obtain ⟨a1,a2,a3,a4,a5,a6,a7⟩:=h.ch
  have hx:=(h.fst x xs rfl).1
  by_cases hc:(thin (l + s / keep) (x :: xs)).length ≤ 2 * keep
  ·exact hc
  ·exfalso
   have hlen:2 * keep ≤ (zdV (l + s / keep) x xs).length:=by simp only [thin,List.length_cons] at hc;omega
   have q:=zqA keep x _ (zk1 xs x _ _ _ a7) (fun c hc'=>by
    rcases List.mem_cons.mp hc' with z | z
    ·rw [z];exact a7.bound.1
    ·exact (zmj _ _ _ _ a7 c (ziU _ _ _ _ z)).2.2.2.1) hlen
   have e1:=Int.mul_ediv_add_emod s keep
   have e2:=Int.emod_lt_of_pos s (show (0:Int) < keep by omega)
   have e3:(keep:Int) * (s / keep + 2)=keep * (s / keep) + 2 * keep:=by rw [Int.mul_add];omega
   rw [e3] at q
   omega
theorem zxX (n t:Int) (h:1 ≤ t):GF t 0 0 (runE n t):=by
 unfold runE
 split
 ·rename_i e
  subst e
  refine ⟨by omega,by omega,by omega,fun e r he=>(by cases he;exact ⟨rfl,rfl⟩),?_⟩
  refine ⟨fun p hp=>(by cases hp), .inr (by show (1:Int) ≤ 0 + 0 + 1;omega),by show (0:Int) < 1;omega,by show (0:Int) < 1;omega,Int.le_refl _,by show (1:Int) - 1 ≤ 0;omega,rfl,rfl⟩
 ·rename_i e
  refine ⟨by omega,by omega,by omega,fun e r he=>(by cases he;exact ⟨rfl,rfl⟩),?_⟩
  refine ⟨fun p hp=>(by cases hp), .inr (by show (1:Int) ≤ 0 + 0 + 1;omega),by show (0:Int) < 1;omega,by show (0:Int) < 1;omega,Int.le_refl _,by show (1:Int) - 1 ≤ 0;omega,?_⟩
  refine ⟨fun p hp=>(by cases hp;exact Int.le_refl _), .inl rfl,by show (1:Int) < t;omega,by show (1:Int) < t;omega,Int.le_refl _,by show t - t ≤ 0;omega,rfl,rfl⟩
end M
namespace V2
open PySem L2
theorem zid {Ω Ω':Sto} {a:A} (h:Ω'.length=Ω.length):trim Ω (some (.ok a,Ω'))=some (.ok a,Ω'):=by
 simp only [trim]
 split
 ·rename_i q
  have:Ω'.take Ω.length=Ω':=by rw [← h];exact List.take_length
  rw [this] at q
  rw [q.1]
 ·rfl
end V2
namespace M
open PySem L2 V2
theorem zxr (l:Int) (k y:E) (Ω:Sto):zb7 [encE k,encE y, .int l] Ω=some (.ok (.bl (zha l k y)),Ω):=by
 by_cases h:y.1=k.1
 ·simp [zb7,zfq,encE,h,zha]
 ·simp [zb7,zfq,encE,h,zha]
theorem zi9 (es:List E) (e:E):encL es ++ [encE e]=encL (es ++ [e]):=by simp [encL]
theorem zj8 (e:E) (es:List E):encL (e :: es)=encE e :: encL es:=rfl
theorem zhL (ok:Sto→Prop) (hok:∀ Ω,ok Ω) (es:List E) (l:Int) (Ω:Sto) (hz:es.length ≤ 100000):∀ (xs:List E) (pre acc:List E) (k:E) (a e:Option A),es=pre ++ xs→1 ≤ pre.length→acc.length ≤ pre.length→∃ a' e',
  fFor ok (zeh 2 (zaG (gN 4) (zaG (gN 5) zeF))) zaN (zaZ pre.length (encL xs)) [some (.lst (encL es)),some (.int l),some (.cel Ω.length),some (.int ((es.length:Int) - 1)),a,e] (Ω ++ [.lst (encL (acc ++ [k]))]) =
   some (.nx,[some (.lst (encL es)),some (.int l),some (.cel Ω.length),some (.int ((es.length:Int) - 1)),a',e'],Ω ++ [.lst (encL (acc ++ [k] ++ zdV l k xs))])
 | [],pre,acc,k,a,e,_,_,_=>⟨a,e,by
   show fFor _ _ _ [] _ _=_
   rw [ziZ (hok _)];simp [zdV]⟩
 | x :: r,pre,acc,k,a,e,he,hp,hac=>by
  have hL:∀ ds,zaD (Ω ++ [.lst ds]) (.cel Ω.length)=some ds:=fun ds=>zaH (by simp)
  have hI:∀ ds,isL (Ω ++ [.lst ds]) (.cel Ω.length):=fun ds=>zg0 (hL ds)
  have hC:∀ ds,zfL (Ω ++ [.lst ds]) (.cel Ω.length)=some (Ω.length,ds):=fun ds=>zcp (by simp)
  have hlen:es.length=pre.length + (r.length + 1):=by rw [he];simp
  have hzz:acc.length + 1 < sizeLine:=by rw [sizeLine_eq];omega
  have hn0:((pre.length:Int) == 0)=false:=by simp;intro z;simp [z] at hp
  have hlast:atI (encL (acc ++ [k])) (-1)=some (encE k):=by rw [← zi9];exact L2.zlt _ _
  have keep:∀ (ρx:Option A),zaN [some (.lst (encL es)),some (.int l),some (.cel Ω.length),some (.int ((es.length:Int) - 1)),some (.int (pre.length:Int)),some (encE x)] (Ω ++ [.lst (encL (acc ++ [k]))]) =
    some (.nx,[some (.lst (encL es)),some (.int l),some (.cel Ω.length),some (.int ((es.length:Int) - 1)),some (.int (pre.length:Int)),some (encE x)],Ω ++ [.lst (encL (acc ++ [k] ++ (match r with
     | []=>[x]
     | y :: _=>if zha l k y=true then [] else [x])))]):=by
   intro _
   cases r with
   | nil =>
    have hl2:((pre.length:Int) == (es.length:Int) - 1)=true:=by simp at hlen ⊢;omega
    simp [zaN,-beq_iff_eq,-beq_eq_false_iff_ne,hn0,hl2,hI,hC,hzz]
    rw [zi9];simp
   | cons y r =>
    have hl2:((pre.length:Int) == (es.length:Int) - 1)=false:=by simp at hlen ⊢;omega
    have hy:atI (encL es) ((pre.length:Int) + 1)=some (encE y):=by
     rw [show ((pre.length:Int) + 1)=((pre.length + 1:Nat):Int) by omega,zg6,zlw,he]
     simp
    have q:=fun Ω=>zxr l k y Ω
    cases hb:zha l k y with
    | true =>
     rw [hb] at q
     simp [zaN,-beq_iff_eq,-beq_eq_false_iff_ne,hn0,hl2,hL,hlast,hy,q,hb]
    | false =>
     rw [hb] at q
     simp [zaN,-beq_iff_eq,-beq_eq_false_iff_ne,hn0,hl2,hL,hlast,hy,q,hI,hC,hzz,hb]
     rw [zi9];simp
  have hpl:(pre ++ [x]).length=pre.length + 1:=by simp
  rw [zj8,zaZ]
  cases r with
  | nil =>
   obtain ⟨a',e',ih⟩:=zhL ok hok es l Ω hz [] (pre ++ [x]) (acc ++ [k]) x (some (.int (pre.length:Int))) (some (encE x)) (by rw [he];simp) (by simp) (by simp;omega)
   rw [hpl] at ih
   refine ⟨a',e',?_⟩
   rw [za7 (hok _) (by simp) (keep none),ih]
   simp [zdV]
  | cons y r =>
   cases hb:zha l k y with
   | true =>
    obtain ⟨a',e',ih⟩:=zhL ok hok es l Ω hz (y :: r) (pre ++ [x]) acc k (some (.int (pre.length:Int))) (some (encE x)) (by rw [he];simp) (by simp) (by simp;omega)
    rw [hpl] at ih
    refine ⟨a',e',?_⟩
    rw [za7 (hok _) (by simp) (keep none)]
    simp only [hb,if_true,List.append_nil]
    rw [ih,zea,if_pos hb]
   | false =>
    obtain ⟨a',e',ih⟩:=zhL ok hok es l Ω hz (y :: r) (pre ++ [x]) (acc ++ [k]) x (some (.int (pre.length:Int))) (some (encE x)) (by rw [he];simp) (by simp) (by simp;omega)
    rw [hpl] at ih
    refine ⟨a',e',?_⟩
    rw [za7 (hok _) (by simp) (keep none)]
    simp only [hb,Bool.false_eq_true,if_false]
    rw [ih,zea,if_neg (by rw [hb];simp)]
    simp
theorem zyk (es:List E) (l:Int) (Ω:Sto) (hz:es.length ≤ 100000):zbI [.lst (encL es), .int l] Ω=some (.ok (.lst (encL (thin l es))),Ω):=by
 have hI:∀ ds,isL (Ω ++ [.lst ds]) (.cel Ω.length):=fun ds=>zg0 (zaH (ds:=ds) (by simp))
 have hC:∀ ds,zfL (Ω ++ [.lst ds]) (.cel Ω.length)=some (Ω.length,ds):=fun ds=>zcp (by simp)
 have h0:(0:Nat) < sizeLine:=by decide
 cases es with
 | nil =>
  simp [zbI,zeS,enumSrc,encL,zaZ,fFor,thin]
  exact zgE (by simp [Cl,ClL])
 | cons x xs =>
  obtain ⟨a',e',q⟩:=zhL (fun _=>True) (fun _=>trivial) (x :: xs) l Ω hz xs [x] [] x (some (.int 0)) (some (encE x)) rfl (by simp) (by simp)
  have f:fFor (fun _=>True) (zeh 2 (zaG (gN 4) (zaG (gN 5) zeF))) zaN (zaZ 0 (encL (x :: xs))) [some (.lst (encL (x :: xs))),some (.int l),some (.cel Ω.length),some (.int (((x :: xs).length:Int) - 1)),none,none] (Ω ++ [.lst []]) =
   some (.nx,[some (.lst (encL (x :: xs))),some (.int l),some (.cel Ω.length),some (.int (((x :: xs).length:Int) - 1)),a',e'],Ω ++ [.lst (encL (thin l (x :: xs)))]):=by
   rw [zj8,zaZ,za7 trivial (ρ0:=[some (.lst (encL (x :: xs))),some (.int l),some (.cel Ω.length),some (.int (((x :: xs).length:Int) - 1)),some (.int 0),some (encE x)]) (Ω0:=Ω ++ [.lst []]) (by simp [zj8])
    (ρ1:=[some (.lst (encL (x :: xs))),some (.int l),some (.cel Ω.length),some (.int (((x :: xs).length:Int) - 1)),some (.int 0),some (encE x)]) (Ω1:=Ω ++ [.lst (encL ([] ++ [x]))]) (by simp [zaN,hI,hC,h0,encL])]
   exact q
  have hn:(((x :: xs).length:Int) - 1)=(xs.length:Int):=by simp
  rw [hn] at f
  simp [zbI,zeS,enumSrc,f]
  exact zgE (by simp [Cl,zlW])
theorem zrd (s l d:Int) (es:List E) (keep:Int) (Ω:Sto) (hk:1 ≤ keep) (hk1:keep < 1000000) (hz:es.length ≤ 100000):zbT [encP s l d es, .int keep] Ω=some (.ok (encP s (l + s / keep) (d + 1) (thin (l + s / keep) es)),Ω):=by
 have q:=fun l Ω=>zyk es l Ω hz
 have h4:(4:Nat) ≤ sizeLine:=by decide
 have hd:∀ j,CDiv j keep:=fun j=>⟨by omega,by omega⟩
 simp [zbT,zm5,encP,q,h4,hd]
theorem zvK {s l d:Int} {es:List E} (h:GF s l d es):(s=0↔es=[]):=by
 cases es with
 | nil=>exact ⟨fun _=>rfl,fun _=>h.ch.1.symm⟩
 | cons e r =>
  obtain ⟨_,_,a3,_,_,_,a7⟩:=h.ch
  have:=a7.bound
  exact ⟨fun z=>by omega,fun z=>by cases z⟩
theorem zu4 {l s:Int}:∀ (es:List E) (lo hp:Int) (pr:Option Int) (i:Nat) (e:E),Ch l s lo hp pr es→es[i]? = some e→e.2.1 ≤ e.2.2∧e.2.2 - e.2.1 ≤ l∧(i + 1=es.length→e.2.1=s∧e.2.2=s)∧∀ f,es[i + 1]? = some f→e.1 ≤ f.1∧e.2.1 < f.2.1∧e.2.2 < f.2.2∧zha l e f=true
 | [],_,_,_,_,_,_,h=>by simp at h
 | x :: r,lo,hp,pr,0,e,h,he=>by
  obtain ⟨a1,a2,a3,a4,a5,a6,a7⟩:=h
  simp at he;subst he
  refine ⟨a5,a6,fun hl=>?_,fun f hf=>?_⟩
  ·have:r=[]:=List.eq_nil_of_length_eq_zero (by simp only [List.length_cons] at hl;omega)
   subst this;exact a7
  ·cases r with
   | nil=>simp at hf
   | cons y r =>
    simp at hf;subst hf
    obtain ⟨b1,b2,b3,b4,_⟩:=a7
    refine ⟨b1 _ rfl,b3,b4,?_⟩
    rw [zek]
    rcases b2 with z | z
    ·left;exact (Option.some.inj z).symm
    ·right;exact z
 | x :: r,lo,hp,pr,i + 1,e,h,he=>by
  obtain ⟨a1,a2,a3,a4,a5,a6,a7⟩:=h
  simp at he
  obtain ⟨c1,c2,c3,c4⟩:=zu4 r _ _ _ i e a7 he
  exact ⟨c1,c2,fun hl=>c3 (by simp only [List.length_cons] at hl;omega),fun f hf=>c4 f (by simpa using hf)⟩
end M
namespace M
open PySem L2 V2
theorem sl3 (n a b:Int) (Ω:Sto):gSl false (.tup [.int n, .int a, .int b]) (some 1) none Ω=some (.ok (.tup [.int a, .int b]),Ω):=by
 have h1:HT.sIx 3 0 (some 1)=1:=by decide
 have h2:HT.sIx 3 3 none=3:=rfl
 simp [h1,cutA,h2]
structure Po where
 s:Int
 l:Int
 d:Int
 es:List E
def encQ (p:Po):A:=encP p.s p.l p.d p.es
structure Ok (keep:Int) (m:Nat) (p:Po):Prop where
 gf:GF p.s p.l p.d p.es
 kp:keep * p.l ≤ p.d * p.s
 dm:p.d ≤ m
def zvb (keep:Int) (p:Po):Po:=⟨p.s,p.l + p.s / keep,p.d + 1,thin (p.l + p.s / keep) p.es⟩
end M
namespace M
open PySem L2 V2
def lenE (ps:List Po):Nat:=(ps.map fun p=>p.es.length).sum
end M
namespace M
open PySem L2 V2
end M
namespace V2
open PySem L2
theorem zlt {α:Type} (l:List α) (x:α):atI (l ++ [x]) (-1)=some x:=by
 unfold atI ixN
 rw [if_neg (by decide),if_pos (by simp;omega)]
 simp
 have:((-1:Int) + ((l.length:Int) + 1)).toNat=l.length:=by omega
 rw [this]
 simp
end V2
namespace M
open PySem L2 V2
end M
namespace V2
open PySem L2
theorem zlp {ok:Sto→Prop} {g:A→MS} {c:Ev→Mo Bool} {e:Ev→Mo A} (F:A→Option A) (P:Ev→Prop) (Ω0:Sto) (hok:∀ ys,ok (Ω0 ++ [.lst ys])):∀ (xs:List A) (ρ:Ev) (acc:List A),P ρ→acc.length + xs.length ≤ 1000000 →
  (∀ x ∈ xs,∀ ρ,P ρ→∀ ys,∃ ρ1,P ρ1∧g x ρ (Ω0 ++ [.lst ys])=some (.nx,ρ1,Ω0 ++ [.lst ys])∧((∃ y,F x=some y∧c ρ1 (Ω0 ++ [.lst ys])=some (.ok true,Ω0 ++ [.lst ys])∧e ρ1 (Ω0 ++ [.lst ys])=some (.ok y,Ω0 ++ [.lst ys]))∨(F x=none∧c ρ1 (Ω0 ++ [.lst ys])=some (.ok false,Ω0 ++ [.lst ys])))) →
  ∃ ρ',fLC ok g c e Ω0.length xs ρ (Ω0 ++ [.lst acc])=some (ρ',Ω0 ++ [.lst (acc ++ xs.filterMap F)])
 | [],ρ,acc,_,_,_=>⟨ρ,by simp [fLC,hok]⟩
 | x :: xs,ρ,acc,hP,hl,turn=>by
  simp only [List.length_cons] at hl
  obtain ⟨ρ1,hP1,e1,q⟩:=turn x (List.mem_cons_self ..) ρ hP acc
  have hz:acc.length < sizeLine:=by rw [sizeLine_eq];omega
  rcases q with ⟨y,f1,e2,e3⟩ | ⟨f1,e2⟩
  ·obtain ⟨ρ',ih⟩:=zlp F P Ω0 hok xs ρ1 (acc ++ [y]) hP1 (by simp;omega) fun x hx=>turn x (List.mem_cons_of_mem _ hx)
   exact ⟨ρ',by simp [fLC,hok,e1,e2,e3,hz,ih,f1]⟩
  ·obtain ⟨ρ',ih⟩:=zlp F P Ω0 hok xs ρ1 acc hP1 (by omega) fun x hx=>turn x (List.mem_cons_of_mem _ hx)
   exact ⟨ρ',by simp [fLC,hok,e1,e2,ih,f1]⟩
theorem ziW {n:Nat} {js:List Nat} {fi:Ev→Mo Src} {g:A→MS} {c:Ev→Mo Bool} {e:Ev→Mo A} {ρ:Ev} {Ω Ω0:Sto} {S:Src} (F:A→Option A) (P:Ev→Prop) (hfi:fi ρ Ω=some (.ok S,Ω0)) (hok:∀ ys,S.ok (Ω0 ++ [.lst ys])) (hP:P (lcEv n js ρ)) (hl:S.ds.length ≤ 1000000)
  (turn:∀ x ∈ S.ds,∀ ρ,P ρ→∀ ys,∃ ρ1,P ρ1∧g x ρ (Ω0 ++ [.lst ys])=some (.nx,ρ1,Ω0 ++ [.lst ys])∧((∃ y,F x=some y∧c ρ1 (Ω0 ++ [.lst ys])=some (.ok true,Ω0 ++ [.lst ys])∧e ρ1 (Ω0 ++ [.lst ys])=some (.ok y,Ω0 ++ [.lst ys]))∨(F x=none∧c ρ1 (Ω0 ++ [.lst ys])=some (.ok false,Ω0 ++ [.lst ys]))))
  (hc:ClL Ω0.length (S.ds.filterMap F)):vLC false n js fi g c e ρ Ω=some (.ok (.lst (S.ds.filterMap F)),Ω0):=by
 obtain ⟨ρ',q⟩:=zlp F P Ω0 hok S.ds (lcEv n js ρ) [] hP (by simpa using hl) turn
 simp [vLC,mb,hfi,q,zvw,hc]
theorem zt0 {a:A} {Ω:Sto} (h:pur 8 a=true):gEq a a Ω=some (.ok (.bl true),Ω):=zuu (zjZ h) (zjZ h) h
end V2
namespace V2
open PySem L2
theorem rngO {f:Ev→Mo (List A)} {ρ:Ev} {Ω Ω':Sto} {j:Int} (h:f ρ Ω=some (.ok [.int j],Ω')) (hs:zfV j):zok f ρ Ω=some (.ok (zgs 0 j.toNat),Ω'):=by
 unfold zok
 rw [zaV h]
 show mb (chk (zfV j)) _ Ω'=_
 rw [zx8 _ hs]
 rfl
theorem forO {fi:Ev→Mo Src} {g:A→MS} {b:MS} {ρ:Ev} {Ω Ω':Sto} {S:Src} (h:fi ρ Ω=some (.ok S,Ω')):sFor fi g b ρ Ω=fFor S.ok g b S.ds ρ Ω':=by
 unfold sFor
 rw [ze1 h]
theorem ziC {n:Nat}:∀ {as:List A},(∀ a ∈ as,Cl n a)→ClL n as
 | [],_=>by simp only [ClL]
 | a :: as,h=>by simp only [ClL];exact ⟨h a (List.mem_cons_self ..),ziC fun b hb=>h b (List.mem_cons_of_mem _ hb)⟩
end V2
namespace M
open PySem L2 V2
abbrev Rn:=Int × Int
def encT (r:Rn):A := .tup [.int r.1, .int r.2]
def zah (rs:List Rn):List A:=rs.map encT
theorem clT (n:Nat) (r:Rn):Cl n (encT r):=by simp [encT,Cl,ClL]
theorem zsL (n:Nat) (rs:List Rn):ClL n (zah rs):=ziC fun a h=>by
 obtain ⟨r,_,rfl⟩:=List.mem_map.mp h
 exact clT n r
def und (rs:List Rn) (n:Int):Int:=(rs.map fun r=>if r.1 < n then r.2 else 0).sum
def upt (rs:List Rn) (n:Int):Int:=(rs.map fun r=>if r.1 ≤ n then r.2 else 0).sum
def tot (rs:List Rn) (n:Int):Int:=(rs.map fun r=>if r.1=n then r.2 else 0).sum
def whole (rs:List Rn):Int:=(rs.map (·.2)).sum
def zcQ (ks:List Int) (f:Int→Int):List (Key × A):=ks.map fun k=>(.inl k, .int (f k))
theorem zsI (ks:List Int) (f:Int→Int) (n:Int):valA (zcQ ks f) (.inl n)=if n ∈ ks then some (.int (f n)) else none:=by
 induction ks with
 | nil=>rfl
 | cons k ks ih =>
  simp only [valA,zcQ,List.map_cons,List.find?_cons] at ih ⊢
  by_cases e:k=n
  ·subst e;simp
  ·have:(Sum.inl k:Key) ≠ Sum.inl n:=fun z=>e (Sum.inl.inj z)
   simp only [this,decide_false]
   rw [ih]
   have e':¬ n=k:=fun z=>e z.symm
   simp [e']
theorem zwL (ks:List Int) (f:Int→Int) (n:Int):((zcQ ks f).any fun kv=>decide (kv.1=(Sum.inl n:Key)))=decide (n ∈ ks):=by
 induction ks with
 | nil=>rfl
 | cons k ks ih =>
  simp only [zcQ,List.map_cons,List.any_cons] at ih ⊢
  rw [ih]
  by_cases e:k=n
  ·subst e;simp
  ·have h1:(Sum.inl k:Key) ≠ Sum.inl n:=fun z=>e (Sum.inl.inj z)
   have e':¬ n=k:=fun z=>e z.symm
   simp [h1,e']
def addK (ks:List Int) (n:Int):List Int:=if n ∈ ks then ks else ks ++ [n]
theorem zwK (ks:List Int) (f g:Int→Int) (n:Int) (hg:∀ k ∈ ks,k ≠ n→g k=f k):putA (zcQ ks f) (.inl n) (.int (g n))=zcQ (addK ks n) g:=by
 unfold putA addK
 rw [zwL]
 by_cases h:n ∈ ks
 ·simp only [h,decide_true,if_true]
  simp only [zcQ,List.map_map]
  refine List.map_congr_left fun k hk=>?_
  by_cases e:k=n
  ·subst e;simp
  ·have h1:(Sum.inl k:Key) ≠ Sum.inl n:=fun z=>e (Sum.inl.inj z)
   simp [h1,hg k hk e]
 ·simp only [h,decide_false,if_false]
  simp only [zcQ,List.map_append,List.map_cons,List.map_nil]
  rw [List.map_congr_left (g:=fun k=>((Sum.inl k:Key),A.int (g k))) fun k hk=>by rw [hg k hk (fun z=>h (z ▸ hk))]]
  simp
def zgV (ks:List Int) (rs:List Rn):List Int:=rs.foldl (fun ks r=>addK ks r.1) ks
theorem zp6 {ks:List Int} {n:Int} (h:ks.Nodup):(addK ks n).Nodup:=by
 unfold addK
 split
 ·exact h
 ·rename_i hn
  rw [List.nodup_append]
  refine ⟨h,by simp,fun a ha b hb e=>?_⟩
  simp only [List.mem_singleton] at hb
  exact hn (hb ▸ e ▸ ha)
theorem zoS {ks:List Int} {n k:Int}:k ∈ addK ks n↔k ∈ ks∨k=n:=by
 unfold addK
 split
 ·rename_i h;exact ⟨.inl,fun z=>z.elim id fun e=>e ▸ h⟩
 ·simp
theorem zoR (ks:List Int) (n:Int):(addK ks n).length ≤ ks.length + 1:=by unfold addK;split <;> simp
theorem zjt:∀ (rs:List Rn) {ks:List Int},ks.Nodup→(zgV ks rs).Nodup
 | [],_,h=>h
 | r :: rs,_,h=>zjt rs (zp6 h)
theorem zmW:∀ (rs:List Rn) {ks:List Int} {k:Int},k ∈ zgV ks rs↔k ∈ ks∨∃ r ∈ rs,r.1=k
 | [],ks,k=>by simp [zgV]
 | r :: rs,ks,k=>by
  show k ∈ zgV (addK ks r.1) rs↔_
  rw [zmW rs,zoS]
  simp only [List.mem_cons,exists_eq_or_imp]
  constructor
  ·rintro ((h | h) | h)
   ·exact .inl h
   ·exact .inr (.inl h.symm)
   ·exact .inr (.inr h)
  ·rintro (h | h | h)
   ·exact .inl (.inl h)
   ·exact .inl (.inr h.symm)
   ·exact .inr h
theorem zi8:∀ (rs:List Rn) (ks:List Int),(zgV ks rs).length ≤ ks.length + rs.length
 | [],ks=>by simp [zgV]
 | r :: rs,ks=>by
  have h1:=zi8 rs (addK ks r.1)
  have h2:=zoR ks r.1
  show (zgV (addK ks r.1) rs).length ≤ _
  simp only [List.length_cons]
  omega
end M
namespace M
open PySem L2 V2
theorem zdL (r:Rn) (rs:List Rn) (x:Int):und (r :: rs) x=(if r.1 < x then r.2 else 0) + und rs x∧upt (r :: rs) x=(if r.1 ≤ x then r.2 else 0) + upt rs x:=⟨rfl,rfl⟩
theorem zsA (R S:List Rn) (x:Int):und (R ++ S) x=und R x + und S x:=by simp [und]
theorem zrD (R S:List Rn) (x:Int):upt (R ++ S) x=upt R x + upt S x:=by simp [upt]
def Tn (R:List Rn):Prop:=∀ r ∈ R,0 ≤ r.2
theorem Tn.tail {r:Rn} {R:List Rn} (h:Tn (r :: R)):Tn R:=fun q hq=>h q (List.mem_cons_of_mem _ hq)
theorem Tn.head {r:Rn} {R:List Rn} (h:Tn (r :: R)):0 ≤ r.2:=h r (List.mem_cons_self ..)
theorem zst:∀ {R:List Rn},Tn R→∀ x,0 ≤ und R x
 | [],_,_=>by simp [und]
 | r :: R,h,x=>by
  rw [(zdL r R x).1]
  have:=zst h.tail x
  have:=h.head
  split <;> omega
theorem zoI:∀ {R:List Rn},Tn R→∀ {x y:Int},x ≤ y→und R x ≤ und R y
 | [],_,_,_,_=>by simp [und]
 | r :: R,h,x,y,l=>by
  rw [(zdL r R x).1,(zdL r R y).1]
  have:=zoI h.tail l
  have:=h.head
  split <;> split <;> omega
theorem zpb:∀ {R:List Rn},Tn R→∀ {x y:Int},x ≤ y→upt R x ≤ upt R y
 | [],_,_,_,_=>by simp [upt]
 | r :: R,h,x,y,l=>by
  rw [(zdL r R x).2,(zdL r R y).2]
  have:=zpb h.tail l
  have:=h.head
  split <;> split <;> omega
theorem znq:∀ {R:List Rn},Tn R→∀ {x y:Int},x < y→upt R x ≤ und R y
 | [],_,_,_,_=>by simp [upt,und]
 | r :: R,h,x,y,l=>by
  rw [(zdL r R x).2,(zdL r R y).1]
  have:=znq h.tail l
  have:=h.head
  split <;> split <;> omega
theorem zl6:∀ {R:List Rn},Tn R→∀ (x:Int),und R x ≤ upt R x
 | [],_,_=>by simp [upt,und]
 | r :: R,h,x=>by
  rw [(zdL r R x).2,(zdL r R x).1]
  have:=zl6 h.tail x
  have:=h.head
  split <;> split <;> omega
theorem zjp:∀ {R:List Rn},Tn R→∀ (x:Int),upt R x ≤ whole R
 | [],_,_=>by simp [upt,whole]
 | r :: R,h,x=>by
  rw [(zdL r R x).2]
  have e:whole (r :: R)=r.2 + whole R:=by simp [whole]
  have:=zjp h.tail x
  have:=h.head
  rw [e]
  split <;> omega
def Pl (R:List Rn):Int→List E→Prop
 | _,[]=>True
 | z,e :: r=>∃ p,z < p∧und R e.1 < p∧p ≤ upt R e.1∧e.2.1 ≤ p∧p ≤ e.2.2∧Pl R p r
theorem Pl.low {R:List Rn} {z z':Int}:∀ {es:List E},Pl R z es→z' ≤ z→Pl R z' es
 | [],_,_=>trivial
 | _ :: _,⟨p,h,q⟩,l=>⟨p,by omega,q⟩
theorem Pl.sub {R:List Rn}:∀ {es fs:List E} {z:Int},es.Sublist fs→Pl R z fs→Pl R z es
 | _,_,_, .slnil,_=>trivial
 | _,_,_, .cons a s,⟨p,h,q⟩=>Pl.sub s (q.2.2.2.2.low (by omega))
 | _,_,_, .cons_cons a s,⟨p,h,q1,q2,q3,q4,q5⟩=>⟨p,h,q1,q2,q3,q4,Pl.sub s q5⟩
theorem zii (l:Int):∀ (xs:List E) (k:E),(zdV l k xs).Sublist xs
 | [],k=>by simp [zdV]
 | [x],k=>by simp [zdV]
 | x :: y :: r,k=>by
  rw [zea]
  split
  ·exact .cons _ (zii l (y :: r) k)
  ·exact .cons_cons _ (zii l (y :: r) x)
theorem zl1 (l:Int) (es:List E):(thin l es).Sublist es:=by
 cases es with
 | nil=>simp [thin]
 | cons x xs=>exact .cons_cons _ (zii l xs x)
theorem Pl.thin {R:List Rn} {es:List E} (l:Int) (h:Pl R 0 es):Pl R 0 (M.thin l es):=h.sub (zl1 l es)
def NfP (es:List E):Prop:=es.Pairwise fun a b=>a.1 ≤ b.1
theorem NfP.next {e f:E} {es:List E} (h:NfP (e :: f :: es)):e.1 ≤ f.1:=(List.pairwise_cons.mp h).1 f (List.mem_cons_self ..)
structure Gd (R:List Rn) (p:Po):Prop where
 tn:Tn R
 gf:GF p.s p.l p.d p.es
 sz:p.s=whole R
 pl:Pl R 0 p.es
end M
namespace M
open PySem L2 V2
theorem Gd.thin {R:List Rn} {p:Po} (h:Gd R p) (keep:Int) (hk:1 ≤ keep):Gd R (zvb keep p):=by
 have hd:0 ≤ p.s / keep:=Int.ediv_nonneg h.gf.s0 (by omega)
 exact ⟨h.tn,zwG h.gf (show p.l ≤ p.l + p.s / keep by omega),h.sz,Pl.thin _ h.pl⟩
theorem Gd.run (n t:Int) (h:1 ≤ t):Gd [(n,t)] ⟨t,0,0,runE n t⟩:=by
 have u1:und [(n,t)] n=0:=by simp [und]
 have u2:upt [(n,t)] n=t:=by simp [upt]
 refine ⟨fun r hr=>by simp at hr;rw [hr];show 0 ≤ t;omega,zxX n t h,by simp [whole],?_⟩
 show Pl [(n,t)] 0 (runE n t)
 unfold runE
 split
 ·exact ⟨1,by omega,(by show und [(n,t)] n < 1;omega),(by show 1 ≤ upt [(n,t)] n;omega),Int.le_refl _,Int.le_refl _,trivial⟩
 ·exact ⟨1,by omega,(by show und [(n,t)] n < 1;omega),(by show 1 ≤ upt [(n,t)] n;omega),Int.le_refl _,Int.le_refl _,t,by omega,(by show und [(n,t)] n < t;omega),(by show t ≤ upt [(n,t)] n;omega),Int.le_refl _,Int.le_refl _,trivial⟩
end M
namespace M
open PySem L2 V2
theorem znF (ok:Sto→Prop) (hok:∀ Ω,ok Ω) (L:A) (Ω:Sto):∀ (rs:List Rn) (ks:List Int) (f:Int→Int) (x y:Option A),ks.length + rs.length ≤ 1000→(∀ n,n ∉ ks→f n=0) →
  ∃ x' y',fFor ok (zeh 2 (zaG (gN 2) (zaG (gN 3) zeF))) zfl (zah rs) [some L,some (.cel Ω.length),x,y] (Ω ++ [.dct (zcQ ks f)])
   = some (.nx,[some L,some (.cel Ω.length),x',y'],Ω ++ [.dct (zcQ (zgV ks rs) fun k=>f k + tot rs k)]):=by
 intro rs
 induction rs with
 | nil =>
  intro ks f x y _ _
  refine ⟨x,y,?_⟩
  have e:(fun k=>f k + tot [] k)=f:=by funext k;simp [tot]
  simp only [zah,List.map_nil,ziZ (hok _),zgV,List.foldl_nil,e]
 | cons r rs ih =>
  intro ks f x y hl hf
  simp only [List.length_cons] at hl
  have hla:=zoR ks r.1
  let g:Int→Int:=fun k=>if k=r.1 then f r.1 + r.2 else f k
  obtain ⟨x',y',q⟩:=ih (addK ks r.1) g (some (.int r.1)) (some (.int r.2)) (by omega) (fun n hn=>by
   rw [zoS] at hn
   have h1:n ∉ ks:=fun z=>hn (.inl z)
   have h2:¬ n=r.1:=fun z=>hn (.inr z)
   simp only [g,h2,if_false,hf n h1])
  refine ⟨x',y',?_⟩
  have hc:zgT (Ω ++ [.dct (zcQ ks f)]) (.cel Ω.length)=some (Ω.length,zcQ ks f):=zj5 (by simp)
  have hd:isD (Ω ++ [.dct (zcQ ks f)]) (.cel Ω.length):=⟨_,_,hc⟩
  have hv:(valA (zcQ ks f) (.inl r.1)).getD (.int 0) = .int (f r.1):=by
   rw [zsI]
   by_cases h:r.1 ∈ ks
   ·simp [h]
   ·simp [h,hf _ h]
  have hp:putA (zcQ ks f) (.inl r.1) (.int (f r.1 + r.2))=zcQ (addK ks r.1) g:=by
   have:=zwK ks f g r.1 fun k _ hk=>by simp [g,hk]
   simpa [g] using this
  have hz:(zcQ ks f).length < sizeLine:=by rw [sizeLine_eq];simp [zcQ];omega
  have st:zfl [some L,some (.cel Ω.length),some (.int r.1),some (.int r.2)] (Ω ++ [.dct (zcQ ks f)])=some (.nx,[some L,some (.cel Ω.length),some (.int r.1),some (.int r.2)],Ω ++ [.dct (zcQ (addK ks r.1) g)]):=by
   simp [zfl,hd,hc,keyA,hv,hz,hp]
  show fFor ok _ _ (encT r :: zah rs) _ _=_
  rw [za7 (hok _) (ρ0:=[some L,some (.cel Ω.length),some (.int r.1),some (.int r.2)]) (Ω0:=Ω ++ [.dct (zcQ ks f)]) (by simp [encT]) st,q]
  have e:(fun k=>g k + tot rs k)=fun k=>f k + tot (r :: rs) k:=by
   funext k
   simp only [g,tot,List.map_cons,List.sum_cons]
   by_cases h:k=r.1
   ·subst h;simp;omega
   ·have h':¬ r.1=k:=fun z=>h z.symm
    simp [h,h']
  rw [e]
  rfl
def pkd (rs:List Rn):List Rn:=(sortI (zgV [] rs)).map fun k=>(k,tot rs k)
theorem znN (ks:List Int) (f:Int→Int):intKeys (zcQ ks f)=some ks:=by
 induction ks with
 | nil=>rfl
 | cons k ks ih =>
  simp only [zcQ,List.map_cons,intKeys] at ih ⊢
  rw [ih];rfl
theorem zoK (rs:List Rn) (hl:rs.length ≤ 63) (Ω:Sto):zeO [.lst (zah rs)] Ω=some (.ok (.lst (zah (pkd rs))),Ω):=by
 obtain ⟨x',y',q⟩:=znF (fun Ω'=>zbl Ω' (.lst (zah rs))=some (zah rs)) (fun _=>rfl) (.lst (zah rs)) Ω rs [] (fun _=>0) none none (by simp;omega) (fun _ _=>rfl)
 simp only [Int.zero_add] at q
 have hkl:=zi8 rs []
 simp only [List.length_nil,Nat.zero_add] at hkl
 generalize hks:zgV [] rs=ks at q hkl
 have hc:∀ Δ,zgT (Ω ++ .dct (zcQ ks fun k=>tot rs k) :: Δ) (.cel Ω.length)=some (Ω.length,zcQ ks fun k=>tot rs k):=fun Δ=>zj5 (by simp)
 have hc0:=hc []
 have sl:=ziH ks
 have hk2:ks.length < 64:=by omega
 have hsz:ks.length ≤ sizeLine:=by rw [sizeLine_eq];omega
 have comp:zjH [some (.lst (zah rs)),some (.cel Ω.length),x',y'] (Ω ++ [.dct (zcQ ks fun k=>tot rs k)])=some (.ok (.lst (zah (pkd rs))),Ω ++ [.dct (zcQ ks fun k=>tot rs k)]):=by
  have eF:((sortI ks).map A.int).filterMap (fun a=>match a with | .int k=>some (encT (k,tot rs k)) | _=>none)=zah (pkd rs):=by
   simp only [List.filterMap_map,zah,pkd,hks,List.map_map]
   rw [← List.filterMap_eq_map]
   rfl
  rw [← eF]
  refine ziW (S:=srcOf (.lst ((sortI ks).map A.int)) ((sortI ks).map A.int)) _ (fun ρ=>∃ v,ρ=[v,some (.cel Ω.length)]) (by simp [hc0,znN,hk2,sl]) (fun _=>rfl) ⟨none,rfl⟩ (by simp [sl];omega) ?_ (by
   show ClL _ (List.filterMap _ ((sortI ks).map A.int));rw [eF];exact zsL _ _)
  rintro x hx ρ ⟨v,rfl⟩ ys
  obtain ⟨k,hk,rfl⟩:=List.mem_map.mp hx
  have hkm:k ∈ ks:=(sortI_perm ks).mem_iff.mp hk
  have h2:(2:Nat) ≤ sizeLine:=by decide
  have hv:valA (zcQ ks fun k=>tot rs k) (.inl k)=some (.int (tot rs k)):=by rw [zsI,if_pos hkm]
  refine ⟨[some (.int k),some (.cel Ω.length)],⟨_,rfl⟩,by simp, .inl ⟨_,rfl,rfl,?_⟩⟩
  have hc1:=hc [.lst ys]
  simp [hc1,keyA,hv,h2,encT]
 show trim Ω (outR (ziS [some (.lst (zah rs)),none,none,none] Ω))=_
 have e:ziS [some (.lst (zah rs)),none,none,none] Ω=some (.ret (.lst (zah (pkd rs))),[some (.lst (zah rs)),some (.cel Ω.length),x',y'],Ω ++ [.dct (zcQ ks fun k=>tot rs k)]):=by
  unfold ziS
  rw [zap (ρ1:=[some (.lst (zah rs)),some (.cel Ω.length),none,none]) (Ω':=Ω ++ [.dct []]) (by simp)]
  rw [zap (ρ1:=[some (.lst (zah rs)),some (.cel Ω.length),x',y']) (Ω':=Ω ++ [.dct (zcQ ks fun k=>tot rs k)]) (by rw [forO (S:=srcOf (.lst (zah rs)) (zah rs)) (Ω':=Ω ++ [.dct []]) (by simp)];exact q)]
  simp [comp]
 rw [e]
 simp only [outR]
 exact zgE (by simp only [Cl];exact zsL _ _)
def na:List Rn→Int→Int→Option Int
 | [],_,_=>none
 | r :: rs,acc,p=>if p ≤ acc + r.2 then some r.1 else na rs (acc + r.2) p
theorem zwB (ok:Sto→Prop) (hok:∀ Ω,ok Ω) (L:A) (p:Int) (Ω:Sto):∀ (rs:List Rn) (acc:Int) (x y:Option A),∃ ρ,fFor ok (zeh 2 (zaG (gN 3) (zaG (gN 4) zeF))) zbJ (zah rs) [some L,some (.int p),some (.int acc),x,y] Ω
  = match na rs acc p with | some n=>some (.ret (.int n),ρ,Ω) | none=>some (.nx,ρ,Ω):=by
 intro rs
 induction rs with
 | nil=>intro acc x y;exact ⟨_,ziZ (hok Ω)⟩
 | cons r rs ih =>
  intro acc x y
  by_cases h:p ≤ acc + r.2
  ·refine ⟨[some L,some (.int p),some (.int (acc + r.2)),some (.int r.1),some (.int r.2)],?_⟩
   simp only [na,h,if_true]
   exact zuC (hok Ω) (ρ0:=[some L,some (.int p),some (.int acc),some (.int r.1),some (.int r.2)]) (Ω0:=Ω) (by simp [encT]) (by simp [zbJ,h])
  ·obtain ⟨ρ,q⟩:=ih (acc + r.2) (some (.int r.1)) (some (.int r.2))
   refine ⟨ρ,?_⟩
   simp only [na,h,if_false]
   rw [← q]
   exact za7 (hok Ω) (ρ0:=[some L,some (.int p),some (.int acc),some (.int r.1),some (.int r.2)]) (Ω0:=Ω) (by simp [encT]) (by simp [zbJ,h])
theorem znk (rs:List Rn) (hl:rs.length ≤ 63) (p:Int) (Ω:Sto):zde [.lst (zah rs), .int p] Ω=if p < 1 then some (.exc ⟨"NoPlace",[]⟩,Ω) else match na (pkd rs) 0 p with | some n=>some (.ok (.int n),Ω) | none=>some (.exc ⟨"NoPlace",[]⟩,Ω):=by
 have h1:(1:Nat) ≤ sizeLine:=by decide
 show trim Ω (outR (zdu [some (.lst (zah rs)),some (.int p),none,none,none] Ω))=_
 by_cases h:p < 1
 ·rw [if_pos h]
  have e:zdu [some (.lst (zah rs)),some (.int p),none,none,none] Ω=some (.exc ⟨"NoPlace",[]⟩,[some (.lst (zah rs)),some (.int p),none,none,none],Ω):=by
   unfold zdu
   simp [h,h1]
  rw [e]
  simp [trim]
 ·rw [if_neg h]
  obtain ⟨ρ,q⟩:=zwB (fun Ω'=>zbl Ω' (.lst (zah (pkd rs)))=some (zah (pkd rs))) (fun _=>rfl) (.lst (zah rs)) p Ω (pkd rs) 0 none none
  have pk:=zoK rs hl Ω
  have s1:∀ f g:MS,sSeq f g [some (.lst (zah rs)),some (.int p),none,none,none] Ω=sSeq f g [some (.lst (zah rs)),some (.int p),none,none,none] Ω:=fun _ _=>rfl
  have e0:zdu [some (.lst (zah rs)),some (.int p),none,none,none] Ω=sSeq (sFor (vSeq (vCl (zat 1 zeO) (zab (vVar 0) a0))) (zeh 2 (zaG (gN 3) (zaG (gN 4) zeF))) zbJ) (zgY "NoPlace" (zab (cS "the row ends before this place") a0)) [some (.lst (zah rs)),some (.int p),some (.int 0),none,none] Ω:=by
   unfold zdu
   rw [zap (ρ1:=[some (.lst (zah rs)),some (.int p),none,none,none]) (Ω':=Ω) (by simp [h])]
   rw [zap (ρ1:=[some (.lst (zah rs)),some (.int p),some (.int 0),none,none]) (Ω':=Ω) (by simp)]
  have e1:sFor (vSeq (vCl (zat 1 zeO) (zab (vVar 0) a0))) (zeh 2 (zaG (gN 3) (zaG (gN 4) zeF))) zbJ [some (.lst (zah rs)),some (.int p),some (.int 0),none,none] Ω=match na (pkd rs) 0 p with | some n=>some (.ret (.int n),ρ,Ω) | none=>some (.nx,ρ,Ω):=by
   rw [forO (S:=srcOf (.lst (zah (pkd rs))) (zah (pkd rs))) (Ω':=Ω) (by simp [zat,pk])]
   exact q
  rw [e0]
  cases hn:na (pkd rs) 0 p with
  | some n =>
   rw [hn] at e1
   rw [zqN e1]
   simp
  | none =>
   rw [hn] at e1
   rw [zap e1]
   simp [h1,trim]
end M
namespace M
open PySem L2 V2
def sumR (ps:List Rn):Int:=(ps.map (·.2)).sum
theorem zqy:∀ (ps:List Rn) (acc p:Int),acc < p→(na ps acc p=none∧acc + sumR ps < p)∨∃ pre n c suf,ps=pre ++ (n,c) :: suf∧na ps acc p=some n∧acc + sumR pre < p∧p ≤ acc + sumR pre + c
 | [],acc,p,h => .inl ⟨rfl,by simpa [sumR] using h⟩
 | (n,c) :: ps,acc,p,h=>by
  by_cases hc:p ≤ acc + c
  ·exact .inr ⟨[],n,c,ps,rfl,by simp [na,hc],by simpa [sumR] using h,by simpa [sumR] using hc⟩
  ·rcases zqy ps (acc + c) p (by omega) with ⟨q1,q2⟩ | ⟨pre,m,d,suf,e,q1,q2,q3⟩
   ·refine .inl ⟨by simp [na,hc,q1],?_⟩
    simp only [sumR,List.map_cons,List.sum_cons] at q2 ⊢
    omega
   ·refine .inr ⟨(n,c) :: pre,m,d,suf,by rw [e];rfl,by simp [na,hc,q1],?_,?_⟩ <;> simp only [sumR,List.map_cons,List.sum_cons] at q2 q3 ⊢ <;> omega
theorem zsa (m t:Int):∀ {ks:List Int},ks.Nodup→(ks.map fun k=>if m=k then t else 0).sum=if m ∈ ks then t else 0
 | [],_=>by simp
 | k :: ks,h=>by
  obtain ⟨h1,h2⟩:=List.nodup_cons.mp h
  simp only [List.map_cons,List.sum_cons,zsa m t h2]
  by_cases e:m=k
  ·subst e;simp [h1]
  ·simp [e]
theorem zoH (f g:Int→Int):∀ ks:List Int,(ks.map fun k=>f k + g k).sum=(ks.map f).sum + (ks.map g).sum
 | []=>by simp
 | k :: ks=>by simp only [List.map_cons,List.sum_cons,zoH f g ks];omega
theorem ztu (r:Rn) (rs:List Rn) (k:Int):tot (r :: rs) k=(if r.1=k then r.2 else 0) + tot rs k:=by simp [tot]
theorem zos:∀ ks:List Int,(ks.map fun _=>(0:Int)).sum=0
 | []=>rfl
 | _ :: ks=>by simp only [List.map_cons,List.sum_cons,zos ks];rfl
theorem zkX (P:Int→Prop) [DecidablePred P] {ps:List Int} (hn:ps.Nodup):∀ (rs:List Rn),(∀ r ∈ rs,(r.1 ∈ ps↔P r.1))→(ps.map (tot rs)).sum=(rs.map fun r=>if P r.1 then r.2 else 0).sum
 | [],_=>by
  have:tot []=fun _=>(0:Int):=by funext k;simp [tot]
  rw [this,zos];rfl
 | r :: rs,h=>by
  have e:(ps.map (tot (r :: rs)))=ps.map fun k=>(if r.1=k then r.2 else 0) + tot rs k:=List.map_congr_left fun k _=>ztu r rs k
  rw [e,zoH,zsa _ _ hn,zkX P hn rs fun q hq=>h q (List.mem_cons_of_mem _ hq)]
  have:=h r (List.mem_cons_self ..)
  simp only [List.map_cons,List.sum_cons]
  by_cases hm:r.1 ∈ ps
  ·rw [if_pos hm,if_pos (this.mp hm)]
  ·rw [if_neg hm,if_neg fun z=>hm (this.mpr z)]
theorem zk5 (rs:List Rn):(sortI (zgV [] rs)).Pairwise (· < ·):=by
 have h1:=zpd (zgV [] rs)
 have h2:(sortI (zgV [] rs)).Nodup:=(sortI_perm _).nodup_iff.mpr (zjt rs List.nodup_nil)
 exact (List.Pairwise.and h1 h2).imp fun ⟨a,b⟩=>by omega
theorem mem_keys (rs:List Rn) (k:Int):k ∈ sortI (zgV [] rs)↔∃ r ∈ rs,r.1=k:=by
 rw [(sortI_perm _).mem_iff,zmW];simp
theorem znZ (rs:List Rn) (ks:List Int):sumR (ks.map fun k=>(k,tot rs k))=(ks.map (tot rs)).sum:=by
 simp [sumR,List.map_map];rfl
theorem zi0 (rs:List Rn):sumR (pkd rs)=whole rs:=by
 unfold pkd
 rw [znZ,zkX (fun _=>True) ((zk5 rs).imp fun z=>Int.ne_of_lt z) rs fun r hr=>⟨fun _=>trivial,fun _=>(mem_keys rs _).mpr ⟨r,hr,rfl⟩⟩]
 simp [whole]
theorem zuT (rs:List Rn) (n':Int):upt rs n'=und rs n' + tot rs n':=by
 induction rs with
 | nil=>rfl
 | cons r rs ih =>
  simp only [upt,und,tot,List.map_cons,List.sum_cons] at ih ⊢
  rw [ih]
  by_cases a:r.1 < n'
  ·have b:r.1 ≤ n':=by omega
   have c:¬ r.1=n':=by omega
   simp only [a,b,c,if_true,if_false];omega
  ·by_cases c:r.1=n'
   ·have b:r.1 ≤ n':=by omega
    simp only [a,b,c,if_true,if_false];simp;omega
   ·have b:¬ r.1 ≤ n':=by omega
    simp only [a,b,c,if_false];omega
theorem zzL (rs:List Rn) (p:Int) (h1:1 ≤ p) (h2:p ≤ whole rs):∃ n,na (pkd rs) 0 p=some n∧und rs n < p∧p ≤ upt rs n∧n ∈ rs.map (·.1):=by
 rcases zqy (pkd rs) 0 p (by omega) with ⟨_,q⟩ | ⟨pre,n,c,suf,e,q1,q2,q3⟩
 ·rw [zi0] at q;omega
 ·refine ⟨n,q1,?_⟩
  have hk:=zk5 rs
  have e':=e
  unfold pkd at e'
  obtain ⟨ps,qs,eks,e1,e2⟩:=List.map_eq_append_iff.mp e'
  obtain ⟨n',qs',rfl,e3,_⟩:=List.map_eq_cons_iff.mp e2
  simp only [Prod.mk.injEq] at e3
  obtain ⟨rfl,rfl⟩:=e3
  rw [eks] at hk
  have hmem:∀ k,k ∈ ps ++ n' :: qs'↔∃ r ∈ rs,r.1=k:=fun k=>by rw [← eks];exact mem_keys rs k
  obtain ⟨p1,p2,p3⟩:=List.pairwise_append.mp hk
  obtain ⟨p4,p5⟩:=List.pairwise_cons.mp p2
  have nd:ps.Nodup:=p1.imp fun z=>Int.ne_of_lt z
  have hu:sumR pre=und rs n':=by
   rw [← e1,znZ]
   refine zkX (fun k=>k < n') nd rs fun r hr=>⟨fun z=>p3 _ z _ (List.mem_cons_self ..),fun z=>?_⟩
   rcases List.mem_append.mp ((hmem r.1).mpr ⟨r,hr,rfl⟩) with y | y
   ·exact y
   ·rcases List.mem_cons.mp y with y | y
    ·omega
    ·have:=p4 _ y;omega
  have ht:=zuT rs n'
  rw [hu] at q2 q3
  refine ⟨by omega,by omega,?_⟩
  obtain ⟨r,hr,e⟩:=(hmem n').mp (List.mem_append_right _ (List.mem_cons_self ..))
  exact List.mem_map.mpr ⟨r,hr,e⟩
end M
namespace M
open PySem L2 V2
end M
namespace M
open PySem L2 V2
def plD:Int→List Rn→List (Key × A)
 | _,[]=>[]
 | acc,r :: rs=>(.inl r.1, .tup [.int (acc + 1), .int (acc + r.2)]) :: plD (acc + r.2) rs
theorem zlM (a b:List Rn):sumR (a ++ b)=sumR a + sumR b:=by simp [sumR]
theorem zr3:∀ (as bs:List Rn) (acc:Int),plD acc (as ++ bs)=plD acc as ++ plD (acc + sumR as) bs
 | [],bs,acc=>by simp [plD,sumR]
 | a :: as,bs,acc=>by
  have e:sumR (a :: as)=a.2 + sumR as:=by simp [sumR]
  simp only [List.cons_append,plD]
  rw [zr3 as bs,e,Int.add_assoc]
theorem zlS:∀ (as:List Rn) (acc:Int),(plD acc as).map (·.1)=as.map fun r=>(Sum.inl r.1:Key)
 | [],_=>rfl
 | a :: as,acc=>by simp only [plD,List.map_cons];rw [zlS as]
theorem zwO (as:List Rn) (acc:Int):(plD acc as).length=as.length:=by
 have:=congrArg List.length (zlS as acc)
 simpa using this
theorem zwq {kvs:List (Key × A)} {k:Key} {a:A} (h:k ∉ kvs.map (·.1)):putA kvs k a=kvs ++ [(k,a)]:=by
 unfold putA
 rw [if_neg]
 intro hc
 rw [List.any_eq_true] at hc
 obtain ⟨x,hx,e⟩:=hc
 exact h (List.mem_map.mpr ⟨x,hx,by simpa using e⟩)
theorem zj7 (ok:Sto→Prop) (hok:∀ Ω,ok Ω) (L:A) (Ω:Sto):∀ (rest pre:List Rn) (x y:Option A),((pre ++ rest).map (·.1)).Pairwise (· < ·)→pre.length + rest.length ≤ 1000 →
  ∃ x' y',fFor ok (zeh 2 (zaG (gN 3) (zaG (gN 4) zeF))) zeR (zah rest) [some L,some (.cel Ω.length),some (.int (sumR pre)),x,y] (Ω ++ [.dct (plD 0 pre)])
   = some (.nx,[some L,some (.cel Ω.length),some (.int (sumR (pre ++ rest))),x',y'],Ω ++ [.dct (plD 0 (pre ++ rest))])
 | [],pre,x,y,_,_=>⟨x,y,by simp [zah,fFor,hok]⟩
 | r :: rest,pre,x,y,hp,hl=>by
  have e0:pre ++ r :: rest=(pre ++ [r]) ++ rest:=by simp
  have hnew:(Sum.inl r.1:Key) ∉ (plD 0 pre).map (·.1):=by
   rw [zlS]
   intro hc
   obtain ⟨q,hq,e⟩:=List.mem_map.mp hc
   rw [List.map_append,List.pairwise_append] at hp
   have:=hp.2.2 q.1 (List.mem_map_of_mem hq) r.1 (by simp)
   have e':q.1=r.1:=by injection e
   omega
  have hput:putA (plD 0 pre) (.inl r.1) (.tup [.int (sumR pre + 1), .int (sumR pre + r.2)])=plD 0 (pre ++ [r]):=by
   rw [zwq hnew,zr3];simp [plD]
  obtain ⟨x',y',q⟩:=zj7 ok hok L Ω rest (pre ++ [r]) (some (.int r.1)) (some (.int r.2)) (by rw [← e0];exact hp) (by simp at hl ⊢;omega)
  refine ⟨x',y',?_⟩
  rw [e0,← q]
  have hc:zgT (Ω ++ [.dct (plD 0 pre)]) (.cel Ω.length)=some (Ω.length,plD 0 pre):=zj5 (by simp)
  have hz:(plD 0 pre).length < sizeLine:=by rw [zwO,sizeLine_eq];simp only [List.length_cons] at hl;omega
  have h2:(2:Nat) ≤ sizeLine:=by decide
  have es:sumR (pre ++ [r])=sumR pre + r.2:=by rw [zlM];simp [sumR]
  have e:zah (r :: rest)=encT r :: zah rest:=rfl
  rw [e,es]
  exact za7 (hok _) (ρ0:=[some L,some (.cel Ω.length),some (.int (sumR pre)),some (.int r.1),some (.int r.2)]) (Ω0:=Ω ++ [.dct (plD 0 pre)]) (by simp [encT]) (by simp [zeR,hc,keyA,hz,hput,h2])
theorem zuR (rs:List Rn):((pkd rs).map (·.1)).Pairwise (· < ·):=by
 have e:(pkd rs).map (·.1)=sortI (zgV [] rs):=by unfold pkd;rw [List.map_map];exact List.map_id _
 rw [e];exact zk5 rs
theorem zrk (rs:List Rn):(pkd rs).length ≤ rs.length:=by
 have hkl:=zi8 rs []
 unfold pkd
 rw [List.length_map,ziH]
 simpa using hkl
theorem znE (rs:List Rn) (hl:rs.length ≤ 63) (Ω:Sto):zez [.lst (zah rs)] Ω=some (.ok (.cel Ω.length),Ω ++ [.dct (plD 0 (pkd rs))]):=by
 have hp:=fun Ω=>zoK rs hl Ω
 have hkl:=zrk rs
 obtain ⟨x',y',q⟩:=zj7 (fun Ω'=>zbl Ω' (.lst (zah (pkd rs)))=some (zah (pkd rs))) (fun _=>rfl) (.lst (zah rs)) Ω (pkd rs) [] none none (by simpa using zuR rs) (by simp;omega)
 simp only [List.nil_append] at q
 have s0:sumR []=0:=rfl
 rw [s0] at q
 have p0:plD 0 []=[]:=rfl
 rw [p0] at q
 show trim Ω (outR (zfy [some (.lst (zah rs)),none,none,none,none] Ω))=_
 have e:zfy [some (.lst (zah rs)),none,none,none,none] Ω=some (.ret (.cel Ω.length),[some (.lst (zah rs)),some (.cel Ω.length),some (.int (sumR (pkd rs))),x',y'],Ω ++ [.dct (plD 0 (pkd rs))]):=by
  unfold zfy
  rw [zap (ρ1:=[some (.lst (zah rs)),some (.cel Ω.length),none,none,none]) (Ω':=Ω ++ [.dct []]) (by simp)]
  rw [zap (ρ1:=[some (.lst (zah rs)),some (.cel Ω.length),some (.int 0),none,none]) (Ω':=Ω ++ [.dct []]) (by simp)]
  rw [zap (ρ1:=[some (.lst (zah rs)),some (.cel Ω.length),some (.int (sumR (pkd rs))),x',y']) (Ω':=Ω ++ [.dct (plD 0 (pkd rs))]) (by
   rw [forO (S:=srcOf (.lst (zah (pkd rs))) (zah (pkd rs))) (Ω':=Ω ++ [.dct []]) (by simp [zat,hp])]
   exact q)]
  simp
 rw [e]
 simp [trim,Cl]
theorem zkM (ok:Sto→Prop) (hok:∀ Ω,ok Ω) (L:A) (Ω:Sto):∀ (rs:List Rn) (acc:Int) (i:Nat) (x y u:Option A),(∀ r ∈ rs,1 ≤ r.2)→acc + whole rs ≤ 1000000000 →
  ∃ x' y' u',fFor ok (zeh 2 (zaG (gN 2) (zaG (gN 3) zeF))) zdO (zaZ i (zah rs)) [some L,some (.int acc),x,y,u] Ω=some (.nx,[some L,some (.int (acc + whole rs)),x',y',u'],Ω)
 | [],acc,i,x,y,u,_,_=>⟨x,y,u,by simp [zah,zaZ,fFor,hok,whole]⟩
 | r :: rs,acc,i,x,y,u,h,hl=>by
  have e:whole (r :: rs)=r.2 + whole rs:=by simp [whole]
  rw [e] at hl ⊢
  have hr:=h r (List.mem_cons_self ..)
  have hnn:0 ≤ whole rs:=by
   have:∀ rs:List Rn,(∀ r ∈ rs,1 ≤ r.2)→0 ≤ whole rs:=by
    intro rs
    induction rs with
    | nil=>intro _;simp [whole]
    | cons a as ih =>
     intro h
     have e:whole (a :: as)=a.2 + whole as:=by simp [whole]
     have:=h a (List.mem_cons_self ..)
     have:=ih fun q hq=>h q (List.mem_cons_of_mem _ hq)
     omega
   exact this rs fun q hq=>h q (List.mem_cons_of_mem _ hq)
  obtain ⟨x',y',u',q⟩:=zkM ok hok L Ω rs (acc + r.2) (i + 1) (some (.int i)) (some (encT r)) (some (.int r.2)) (fun q hq=>h q (List.mem_cons_of_mem _ hq)) (by omega)
  refine ⟨x',y',u',?_⟩
  rw [← Int.add_assoc,← q]
  have n1:¬ r.2 < 1:=by omega
  have n2:¬ 1000000000 < acc + r.2:=by omega
  exact za7 (hok Ω) (ρ0:=[some L,some (.int acc),some (.int i),some (encT r),u]) (Ω0:=Ω) (by simp [encT]) (by simp [zdO,encT,n1,n2])
theorem znJ (rs:List Rn) (h:∀ r ∈ rs,1 ≤ r.2) (hl:whole rs ≤ 1000000000) (Ω:Sto):zd1 [.lst (zah rs)] Ω=some (.ok (.int (whole rs)),Ω):=by
 obtain ⟨x',y',u',q⟩:=zkM (fun Ω'=>zaD Ω' (.lst (zah rs))=some (zah rs)) (fun _=>rfl) (.lst (zah rs)) Ω rs 0 0 none none none h (by omega)
 rw [Int.zero_add] at q
 show trim Ω (outR (zfs [some (.lst (zah rs)),none,none,none,none] Ω))=_
 unfold zfs
 rw [zap (ρ1:=[some (.lst (zah rs)),some (.int 0),none,none,none]) (Ω':=Ω) (by simp)]
 rw [zap (ρ1:=[some (.lst (zah rs)),some (.int (whole rs)),x',y',u']) (Ω':=Ω) (by
  rw [forO (S:=enumSrc (.lst (zah rs)) (zah rs)) (Ω':=Ω) (by simp)]
  exact q)]
 simp
end M
namespace M
open PySem L2 V2
theorem zsf {R as bs:List Rn} {r:Rn} (e:pkd R=as ++ r :: bs):sumR as=und R r.1∧sumR as + r.2=upt R r.1∧r.1 ∈ R.map (·.1):=by
 have hk:=zk5 R
 have e':=e
 unfold pkd at e'
 obtain ⟨ps,qs,eks,e1,e2⟩:=List.map_eq_append_iff.mp e'
 obtain ⟨n',qs',rfl,e3,_⟩:=List.map_eq_cons_iff.mp e2
 subst e3
 rw [eks] at hk
 have hmem:∀ k,k ∈ ps ++ n' :: qs'↔∃ r ∈ R,r.1=k:=fun k=>by rw [← eks];exact mem_keys R k
 obtain ⟨p1,p2,p3⟩:=List.pairwise_append.mp hk
 obtain ⟨p4,p5⟩:=List.pairwise_cons.mp p2
 have nd:ps.Nodup:=p1.imp fun z=>Int.ne_of_lt z
 have hu:sumR as=und R n':=by
  rw [← e1,znZ]
  refine zkX (fun k=>k < n') nd R fun r hr=>⟨fun z=>p3 _ z _ (List.mem_cons_self ..),fun z=>?_⟩
  rcases List.mem_append.mp ((hmem r.1).mpr ⟨r,hr,rfl⟩) with y | y
  ·exact y
  ·rcases List.mem_cons.mp y with y | y
   ·omega
   ·have:=p4 _ y;omega
 have ht:=zuT R n'
 refine ⟨hu,by rw [hu];exact ht.symm,?_⟩
 obtain ⟨r,hr,e⟩:=(hmem n').mp (List.mem_append_right _ (List.mem_cons_self ..))
 exact List.mem_map.mpr ⟨r,hr,e⟩
theorem znU {R:List Rn} (h:∀ r ∈ R,1 ≤ r.2) {r:Rn} (hr:r ∈ pkd R):1 ≤ r.2:=by
 obtain ⟨as,bs,e⟩:=List.append_of_mem hr
 obtain ⟨h1,h2,h3⟩:=zsf e
 have hT:Tn R:=fun q hq=>by have:=h q hq;omega
 obtain ⟨q,hq,eq⟩:=List.mem_map.mp h3
 have:und R r.1 < upt R r.1:=by
  have:∀ (S:List Rn),(∀ q ∈ S,1 ≤ q.2)→q ∈ S→und S r.1 < upt S r.1:=by
   intro S
   induction S with
   | nil=>intro _ z;cases z
   | cons x S ih =>
    intro hS hm
    have hTS:Tn S:=fun y hy=>by have:=hS y (by simp [hy]);omega
    obtain ⟨c1,c2⟩:=zdL x S r.1
    rw [c1,c2]
    have hx:=hS x (by simp)
    rcases List.mem_cons.mp hm with z | z
    ·subst z
     have:=zl6 hTS r.1
     have e1:¬ q.1 < r.1:=by omega
     have e2:q.1 ≤ r.1:=by omega
     rw [if_neg e1,if_pos e2]
     omega
    ·have:=ih (fun y hy=>hS y (by simp [hy])) z
     split <;> split <;> omega
  exact this R h hq
 omega
def ofE:Int→List Rn→List E
 | _,[]=>[]
 | acc,r :: rs=>(r.1,acc + 1,acc + 1) :: ((if acc + 1=acc + r.2 then [] else [(r.1,acc + r.2,acc + r.2)]) ++ ofE (acc + r.2) rs)
theorem zf5 (r:Rn) (rs:List Rn):sumR (r :: rs)=r.2 + sumR rs:=by simp [sumR]
theorem zr8:∀ {ps:List Rn},(∀ r ∈ ps,1 ≤ r.2)→0 ≤ sumR ps
 | [],_=>by simp [sumR]
 | r :: rs,h=>by
  have:=zr8 (ps:=rs) fun q hq=>h q (by simp [hq])
  have:=h r (by simp)
  rw [zf5];omega
theorem zuQ:∀ (ps:List Rn) (acc:Int) (pr:Option Int),(∀ r ∈ ps,1 ≤ r.2)→(ps.map (·.1)).Pairwise (· < ·)→(∀ p,pr=some p→∀ r ∈ ps,p ≤ r.1)→Ch 0 (acc + sumR ps) acc acc pr (ofE acc ps)
 | [],acc,pr,_,_,_=>by simp [ofE,Ch,sumR]
 | r :: rs,acc,pr,h1,h2,h3=>by
  have hr:=h1 r (by simp)
  rw [List.map_cons,List.pairwise_cons] at h2
  have ih:=zuQ rs (acc + r.2) (some r.1) (fun q hq=>h1 q (by simp [hq])) h2.2 (fun p hp q hq=>by
   cases hp
   have:=h2.1 q.1 (List.mem_map.mpr ⟨q,hq,rfl⟩)
   omega)
  have es:acc + sumR (r :: rs)=acc + r.2 + sumR rs:=by rw [zf5];omega
  rw [es]
  unfold ofE
  refine ⟨fun p hp=>h3 p hp r (by simp), .inr (by show acc + 1 ≤ acc + 0 + 1;omega),by show acc < acc + 1;omega,by show acc < acc + 1;omega,Int.le_refl _,by show acc + 1 - (acc + 1) ≤ 0;omega,?_⟩
  show Ch 0 (acc + r.2 + sumR rs) (acc + 1) (acc + 1) (some r.1) ((if acc + 1=acc + r.2 then [] else [(r.1,acc + r.2,acc + r.2)]) ++ ofE (acc + r.2) rs)
  by_cases hq:acc + 1=acc + r.2
  ·rw [if_pos hq,List.nil_append,hq]
   exact ih
  ·rw [if_neg hq]
   exact ⟨fun p hp=>by cases hp;exact Int.le_refl _, .inl rfl,by show acc + 1 < acc + r.2;omega,by show acc + 1 < acc + r.2;omega,Int.le_refl _,by show acc + r.2 - (acc + r.2) ≤ 0;omega,ih⟩
theorem zu1 {R:List Rn} (h:∀ r ∈ pkd R,1 ≤ r.2):∀ (ps as:List Rn) (z:Int),pkd R=as ++ ps→z ≤ sumR as→Pl R z (ofE (sumR as) ps)
 | [],as,z,_,_=>trivial
 | r :: rs,as,z,e,hz=>by
  obtain ⟨h1,h2,h3⟩:=zsf e
  have hr:=h r (by rw [e];simp)
  have ih:=zu1 h rs (as ++ [r]) (sumR as + r.2) (by rw [e];simp) (by rw [zlM,zf5];simp [sumR])
  have es:sumR (as ++ [r])=sumR as + r.2:=by rw [zlM,zf5];simp [sumR]
  rw [es] at ih
  unfold ofE
  refine ⟨sumR as + 1,by omega,by show und R r.1 < sumR as + 1;omega,by show sumR as + 1 ≤ upt R r.1;omega,Int.le_refl _,Int.le_refl _,?_⟩
  by_cases hq:sumR as + 1=sumR as + r.2
  ·rw [if_pos hq,List.nil_append]
   exact ih.low (by omega)
  ·rw [if_neg hq]
   exact ⟨sumR as + r.2,by omega,by show und R r.1 < sumR as + r.2;omega,by show sumR as + r.2 ≤ upt R r.1;omega,Int.le_refl _,Int.le_refl _,ih⟩
theorem zoi:∀ (ps:List Rn) (acc:Int),(∀ r ∈ ps,1 ≤ r.2)→((ofE acc ps).length:Int) ≤ sumR ps
 | [],acc,_=>by simp [ofE,sumR]
 | r :: rs,acc,h=>by
  have ih:=zoi rs (acc + r.2) fun q hq=>h q (by simp [hq])
  have hr:=h r (by simp)
  rw [zf5]
  unfold ofE
  by_cases hq:acc + 1=acc + r.2
  ·rw [if_pos hq]
   simp only [List.nil_append,List.length_cons]
   omega
  ·rw [if_neg hq]
   simp only [List.cons_append,List.nil_append,List.length_cons]
   omega
theorem zq9:∀ (ps:List Rn) (acc:Int),∀ e ∈ ofE acc ps,e.1 ∈ ps.map (·.1)
 | [],_,e,h=>by simp [ofE] at h
 | r :: rs,acc,e,h=>by
  unfold ofE at h
  rcases List.mem_cons.mp h with z | z
  ·rw [z];simp
  ·rcases List.mem_append.mp z with y | y
   ·split at y
    ·simp at y
    ·simp at y;rw [y];simp
   ·have:=zq9 rs _ e y
    rw [List.map_cons]
    exact List.mem_cons_of_mem _ this
def ofPo (R:List Rn):Po:=⟨whole R,0,0,ofE 0 (pkd R)⟩
theorem zt1 {R:List Rn} (h:∀ r ∈ R,1 ≤ r.2):Gd R (ofPo R):=by
 have hp:∀ r ∈ pkd R,1 ≤ r.2:=fun r hr=>znU h hr
 have hw:=zi0 R
 refine ⟨fun r hr=>by have:=h r hr;omega,⟨?_,Int.le_refl _,Int.le_refl _,?_,?_⟩,rfl,?_⟩
 ·show 0 ≤ whole R
  rw [← hw];exact zr8 hp
 ·intro e r he
  have he':ofE 0 (pkd R)=e :: r:=he
  cases hq:pkd R with
  | nil=>rw [hq] at he';cases he'
  | cons a b =>
   rw [hq] at he'
   unfold ofE at he'
   cases he'
   exact ⟨rfl,rfl⟩
 ·have:=zuQ (pkd R) 0 none hp (zuR R) (fun p hp=>by cases hp)
  rw [Int.zero_add,hw] at this
  exact this
 ·exact zu1 hp (pkd R) [] 0 rfl (Int.le_refl _)
theorem zv1 (x0:Option A) (f:Nat) (k a b:Int) (done:List A) (hd:done.length ≤ 1000) (Ω:Sto) (hf:Ω[f]? = some (.lst done)) :
  zfn [x0,some (.cel f),some (.int k),some (.tup [.int a, .int b])] Ω=some (.nx,[x0,some (.cel f),some (.int k),some (.tup [.int a, .int b])],Ω.set f (.lst (done ++ encE (k,a,a) :: (if a=b then [] else [encE (k,b,b)])))):=by
 have fl:f < Ω.length:=(List.getElem?_eq_some_iff.mp hf).1
 have cl:zfL Ω (.cel f)=some (f,done):=zcp hf
 have il:isL Ω (.cel f):=zg0 (zaH hf)
 have h3:(3:Nat) ≤ sizeLine:=by decide
 have hz:done.length < sizeLine:=by rw [sizeLine_eq];omega
 unfold zfn
 have hf2:(Ω.set f (.lst (done ++ [encE (k,a,a)])))[f]? = some (.lst (done ++ [encE (k,a,a)])):=List.getElem?_set_self fl
 rw [zap (ρ1:=[x0,some (.cel f),some (.int k),some (.tup [.int a, .int b])]) (Ω':=Ω.set f (.lst (done ++ [encE (k,a,a)]))) (by simp [cl,il,hz,h3,encE,zhM])]
 have cl2:zfL (Ω.set f (.lst (done ++ [encE (k,a,a)]))) (.cel f)=some (f,done ++ [encE (k,a,a)]):=zcp hf2
 have il2:isL (Ω.set f (.lst (done ++ [encE (k,a,a)]))) (.cel f):=zg0 (zaH hf2)
 have hz2:done.length + 1 < sizeLine:=by rw [sizeLine_eq];omega
 generalize hΩ2:Ω.set f (.lst (done ++ [encE (k,a,a)]))=Ω2 at cl2 il2
 by_cases hq:a=b
 ·subst hq
  simp [zhM,znI,← hΩ2]
 ·have hne:¬ (a == b)=true:=by simpa using hq
  simp [zhM,znI,hq,cl2,il2,hz2,h3,encE]
  rw [← hΩ2,List.set_set]
theorem zrZ (ok:Sto→Prop) (hok:∀ Ω,ok Ω) (x0:Option A) (Ω:Sto) (D:Cell):∀ (ps:List Rn) (acc:Int) (done:List A) (x2 x3:Option A),done.length + 2 * ps.length ≤ 1000 →
  ∃ z2 z3,fFor ok (zeh 2 (zaG (gN 2) (zaG (gN 3) zeF))) zfn ((plD acc ps).map itA) [x0,some (.cel Ω.length),x2,x3] (Ω ++ [.lst done,D])=some (.nx,[x0,some (.cel Ω.length),z2,z3],Ω ++ [.lst (done ++ encL (ofE acc ps)),D])
 | [],acc,done,x2,x3,_=>⟨x2,x3,by simp [plD,fFor,hok,ofE,encL]⟩
 | r :: rs,acc,done,x2,x3,hl=>by
  have hl':done.length + 2 * (rs.length + 1) ≤ 1000:=hl
  have t:=zv1 x0 Ω.length r.1 (acc + 1) (acc + r.2) done (by omega) (Ω ++ [.lst done,D]) (by simp)
  have hd2:(done ++ encE (r.1,acc + 1,acc + 1) :: (if acc + 1=acc + r.2 then [] else [encE (r.1,acc + r.2,acc + r.2)])).length ≤ done.length + 2:=by
   split <;> simp
  obtain ⟨z2,z3,q⟩:=zrZ ok hok x0 Ω D rs (acc + r.2) (done ++ encE (r.1,acc + 1,acc + 1) :: (if acc + 1=acc + r.2 then [] else [encE (r.1,acc + r.2,acc + r.2)])) (some (.int r.1)) (some (.tup [.int (acc + 1), .int (acc + r.2)])) (by omega)
  refine ⟨z2,z3,?_⟩
  have es:(Ω ++ [Cell.lst done,D]).set Ω.length (.lst (done ++ encE (r.1,acc + 1,acc + 1) :: (if acc + 1=acc + r.2 then [] else [encE (r.1,acc + r.2,acc + r.2)])))=Ω ++ [.lst (done ++ encE (r.1,acc + 1,acc + 1) :: (if acc + 1=acc + r.2 then [] else [encE (r.1,acc + r.2,acc + r.2)])),D]:=by simp
  rw [es] at t
  have el:done ++ encL (ofE acc (r :: rs))=(done ++ encE (r.1,acc + 1,acc + 1) :: (if acc + 1=acc + r.2 then [] else [encE (r.1,acc + r.2,acc + r.2)])) ++ encL (ofE (acc + r.2) rs):=by
   have e0:ofE acc (r :: rs)=(r.1,acc + 1,acc + 1) :: ((if acc + 1=acc + r.2 then [] else [(r.1,acc + r.2,acc + r.2)]) ++ ofE (acc + r.2) rs):=rfl
   rw [e0]
   generalize ofE (acc + r.2) rs=us
   by_cases hq:acc + 1=acc + r.2
   ·rw [if_pos hq,if_pos hq];simp [encL]
   ·rw [if_neg hq,if_neg hq];simp [encL]
  rw [el,← q]
  simp only [plD,List.map_cons]
  refine za7 (hok _) (ρ0:=[x0,some (.cel Ω.length),some (.int r.1),some (.tup [.int (acc + 1), .int (acc + r.2)])]) (Ω0:=Ω ++ [.lst done,D]) ?_ t
  simp [itA,kA]
theorem zta (R:List Rn) (h:∀ r ∈ R,1 ≤ r.2) (hl:R.length ≤ 63) (hw:whole R ≤ 1000000000) (Ω:Sto):zhA [.lst (zah R)] Ω=some (.ok (encP (whole R) 0 0 (ofE 0 (pkd R))),Ω):=by
 have pl:=znE R hl (Ω ++ [.lst []])
 have pn:=zrk R
 obtain ⟨z2,z3,q⟩:=zrZ (fun _=>True) (fun _=>trivial) (some (.lst (zah R))) Ω .dead (pkd R) 0 [] none none (by simp;omega)
 have s4:(4:Nat) ≤ sizeLine:=by decide
 show trim Ω (outR (zi3 [some (.lst (zah R)),none,none,none] Ω))=_
 have e:zi3 [some (.lst (zah R)),none,none,none] Ω=some (.ret (encP (whole R) 0 0 (ofE 0 (pkd R))),[some (.lst (zah R)),some (.cel Ω.length),z2,z3],Ω ++ [.dead, .dead]):=by
  have lr:=znJ R h hw (Ω ++ [.lst (encL (ofE 0 (pkd R))), .dead])
  unfold zi3
  rw [zap (ρ1:=[some (.lst (zah R)),some (.cel Ω.length),none,none]) (Ω':=Ω ++ [.lst []]) (by simp [mkL])]
  rw [zap (ρ1:=[some (.lst (zah R)),some (.cel Ω.length),z2,z3]) (Ω':=Ω ++ [.lst (encL (ofE 0 (pkd R))), .dead]) (by
   rw [forO (S:=zjS (plD 0 (pkd R))) (Ω':=Ω ++ [.lst [], .dead]) (by
    generalize zah R=us at pl
    have cd:zgT (Ω ++ [Cell.lst [],Cell.dct (plD 0 (pkd R))]) (.cel (Ω.length + 1))=some (Ω.length + 1,plD 0 (pkd R)):=by simp [zgT]
    have pl':zez [.lst us] (Ω ++ [Cell.lst []])=some (.ok (.cel (Ω.length + 1)),Ω ++ [Cell.lst [], .dct (plD 0 (pkd R))]):=by
     rw [pl];simp
    simp [zat,pl',cd])]
   rw [List.nil_append] at q
   exact q)]
  unfold encP
  generalize encL (ofE 0 (pkd R))=us at lr
  generalize zah R=vs at lr
  simp [zat,lr,s4]
 rw [e]
 simp only [zd5]
 exact zgE (by
  simp only [encP,Cl,ClL,and_true,true_and]
  exact ziC fun a ha=>by
   obtain ⟨e,_,rfl⟩:=List.mem_map.mp ha
   simp [encE,Cl,ClL])
end M
namespace M
open PySem V2
end M
namespace M
open PySem L2 V2
def L2S (l:List Nat):Str:=⟨l.toArray⟩
@[simp] theorem zzi (l:List Nat):(L2S l).cps.toList=l:=rfl
def J (c:Nat):List (List Nat)→List Nat
 | []=>[]
 | x :: r=>x ++ r.flatMap fun y=>c :: y
end M
namespace M
open PySem L2 V2
end M
namespace M
open PySem L2 V2
end M
namespace M
open PySem L2 V2
open Classical in
theorem zn3 {α:Type} {n:Nat} {js:List Nat} {fi:Ev→Mo Src} {g:A→MS} {e:Ev→Mo A} {ρ:Ev} {Ω Ω0:Sto} {S:Src} (xs:List α) (enc out:α→A) (P:Ev→Prop) (inj:∀ x y,enc x=enc y→out x=out y)
  (h0:fi ρ Ω=some (.ok S,Ω0)) (hok:∀ ys,S.ok (Ω0 ++ [.lst ys])) (hP:P (lcEv n js ρ)) (hS:S.ds=xs.map enc) (hl:xs.length ≤ 1000000)
  (step:∀ x ∈ xs,∀ ρ,P ρ→∀ ys,∃ ρ1,P ρ1∧g (enc x) ρ (Ω0 ++ [.lst ys])=some (.nx,ρ1,Ω0 ++ [.lst ys])∧e ρ1 (Ω0 ++ [.lst ys])=some (.ok (out x),Ω0 ++ [.lst ys]))
  (hc:∀ x ∈ xs,Cl Ω0.length (out x)):vLC false n js fi g yesM e ρ Ω=some (.ok (.lst (xs.map out)),Ω0):=by
 let F:A→Option A:=fun a=>if h:∃ x,x ∈ xs∧enc x=a then some (out (Classical.choose h)) else none
 have hF:∀ x ∈ xs,F (enc x)=some (out x):=fun x hx=>by
  have h:∃ y,y ∈ xs∧enc y=enc x:=⟨x,hx,rfl⟩
  show (if h:∃ y,y ∈ xs∧enc y=enc x then some (out (Classical.choose h)) else none)=_
  rw [dif_pos h,inj _ _ (Classical.choose_spec h).2]
 have ef:∀ l:List α,(∀ x ∈ l,x ∈ xs)→(l.map enc).filterMap F=l.map out:=by
  intro l
  induction l with
  | nil=>intro _;rfl
  | cons x r ih =>
   intro h
   simp only [List.map_cons,List.filterMap_cons,hF x (h x (by simp)),ih fun y hy=>h y (by simp [hy])]
 have q:=ziW (n:=n) (js:=js) (fi:=fi) (g:=g) (c:=yesM) (e:=e) (ρ:=ρ) (Ω:=Ω) (Ω0:=Ω0) (S:=S) F P h0 hok hP (by rw [hS];simpa using hl) (fun x hx ρ hp ys=>by
  rw [hS] at hx
  obtain ⟨y,hy,rfl⟩:=List.mem_map.mp hx
  obtain ⟨ρ1,h1,h2,h3⟩:=step y hy ρ hp ys
  exact ⟨ρ1,h1,h2, .inl ⟨out y,hF y hy,by simp [yesM],h3⟩⟩) (by
  rw [hS,ef xs fun _ h=>h]
  exact ziC fun a ha=>by obtain ⟨x,hx,rfl⟩:=List.mem_map.mp ha;exact hc x hx)
 rw [hS,ef xs fun _ h=>h] at q
 exact q
end M
namespace M
open PySem L2 V2
end M
namespace M
open PySem L2 V2
abbrev Nf (xs:List E):Prop:=xs.Pairwise fun a b=>a.1 ≤ b.1
theorem zwj {l s:Int}:∀ {es:List E} {lo hp:Int} {pr:Option Int},Ch l s lo hp pr es→Nf es∧(∀ e ∈ es,lo < e.2.1)∧(∀ p,pr=some p→∀ e ∈ es,p ≤ e.1)∧es.Pairwise (fun a b=>a.2.1 < b.2.1)
 | [],_,_,_,_=>⟨.nil,by simp,by simp, .nil⟩
 | e :: r,lo,hp,pr,h=>by
  obtain ⟨h1,_,h3,_,_,_,h7⟩:=h
  obtain ⟨a,b,c,d⟩:=zwj h7
  refine ⟨List.pairwise_cons.mpr ⟨fun x hx=>c e.1 rfl x hx,a⟩,fun x hx=>?_,fun p hp x hx=>?_,List.pairwise_cons.mpr ⟨b,d⟩⟩
  ·rcases List.mem_cons.mp hx with z | z
   ·subst z;exact h3
   ·have:=b x z;omega
  ·rcases List.mem_cons.mp hx with z | z
   ·subst z;exact h1 p hp
   ·have:=h1 p hp;have:=c e.1 rfl x z;omega
end M
namespace M
open PySem L2 V2
end M
namespace M
open PySem L2 V2
end M
namespace M
open PySem L2 V2
end M
namespace M
open PySem L2 V2
end M
namespace M
open PySem L2 V2
end M
namespace M
open PySem L2 V2
end M
namespace M
open PySem L2 V2
end M
namespace M
open PySem L2 V2
def sumS (ps:List Po):Int:=(ps.map fun p=>p.s).sum
structure Pile (i:Nat) (ps:List Po):Prop where
 ne:ps ≠ []
 gf:∀ p ∈ ps,GF p.s p.l p.d p.es
 le:lenE ps ≤ 2 * i
 ln:ps.length ≤ i + 1
 sz:sumS ps ≤ 1000000 * i
end M
namespace M
open PySem L2 V2
theorem zwS (n:Nat) (p:Po):Cl n (encQ p):=zwI n _ _ _ _
end M
namespace M
open PySem L2 V2
end M
namespace M
open PySem L2 V2
theorem zpc {p:E→Bool}:∀ {es:List E},es.Pairwise (fun a b=>p a=true→p b=true)→∃ m,m ≤ es.length∧∀ (i:Nat) (e:E),es[i]? = some e→p e=decide (m ≤ i)
 | [],_=>⟨0,Nat.le_refl _,fun i e h=>by simp at h⟩
 | x :: xs,h=>by
  obtain ⟨h1,h2⟩:=List.pairwise_cons.mp h
  cases hx:p x with
  | true =>
   refine ⟨0,Nat.zero_le _,fun i e he=>?_⟩
   cases i with
   | zero=>simp at he;subst he;simp [hx]
   | succ i=>simp at he;simp [h1 e (List.mem_of_getElem? he) hx]
  | false =>
   obtain ⟨m,hm,q⟩:=zpc h2
   refine ⟨m + 1,by simp;omega,fun i e he=>?_⟩
   cases i with
   | zero=>simp at he;subst he;simp [hx]
   | succ i =>
    simp at he
    rw [q i e he]
    simp
end M
namespace M
open PySem L2 V2
def ah (x:Int) (also:Bool) (e:E):Bool:=decide (e.1 < x) || (also && decide (e.1=x))
theorem zv5 {s l d:Int} {es:List E} (h:GF s l d es) (x:Int) (also:Bool):∃ m,m ≤ es.length∧∀ (i:Nat) (e:E),es[i]? = some e→(!ah x also e)=decide (m ≤ i) :=
 zpc (p:=fun e=>!ah x also e) ((zwj h.ch).1.imp fun {a b} hab ha=>by
  have hab':a.1 ≤ b.1:=hab
  cases also <;> simp [ah] at ha ⊢ <;> omega)
end M
namespace M
open PySem L2 V2
def At (R:List Rn) (e:E) (p:Int):Prop:=und R e.1 < p∧p ≤ upt R e.1∧e.2.1 ≤ p∧p ≤ e.2.2
theorem zqV {R:List Rn}:∀ {es:List E} {z:Int},Pl R z es→∃ ps:List Int,ps.length=es.length∧(∀ p ∈ ps,z < p)∧ps.Pairwise (· < ·)∧∀ (i:Nat) (e:E),es[i]? = some e→∃ p,ps[i]? = some p∧At R e p
 | [],_,_=>⟨[],rfl,(fun _ h=>by cases h),List.Pairwise.nil,(fun i e h=>by simp at h)⟩
 | e :: r,z,⟨p,h,q1,q2,q3,q4,q5⟩=>by
  obtain ⟨ps,a1,a2,a3,a4⟩:=zqV q5
  refine ⟨p :: ps,by simp [a1],fun q hq=>?_,List.pairwise_cons.mpr ⟨fun q hq=>a2 q hq,a3⟩,fun i e' he=>?_⟩
  ·rcases List.mem_cons.mp hq with x | x
   ·rw [x];exact h
   ·have:=a2 q x;omega
  ·cases i with
   | zero=>simp at he;subst he;exact ⟨p,rfl,q1,q2,q3,q4⟩
   | succ i=>obtain ⟨p',b1,b2⟩:=a4 i e' (by simpa using he);exact ⟨p',by simpa using b1,b2⟩
theorem zx1 {R:List Rn} {es:List E} {z:Int} (h:Pl R z es) {i:Nat} {e:E} (he:es[i]? = some e):∃ p,z < p∧At R e p:=by
 obtain ⟨ps,_,a2,_,a4⟩:=zqV h
 obtain ⟨p,b1,b2⟩:=a4 i e he
 exact ⟨p,a2 p (List.mem_of_getElem? b1),b2⟩
def cntR (R:List Rn) (x:Int) (also:Bool):Int:=if also then upt R x else und R x
theorem bnd {R:List Rn} {p:Po} (h:Gd R p) (x:Int) (also:Bool) (m:Nat) (hm:m ≤ p.es.length) (hq:∀ (i:Nat) (e:E),p.es[i]? = some e→(!ah x also e)=decide (m ≤ i)) :
  loE p.es m ≤ cntR R x also∧cntR R x also ≤ hiE p.s p.es m∧0 ≤ loE p.es m:=by
 have hl:∀ (i:Nat) (e:E),p.es[i]? = some e→i < m→upt R e.1 ≤ cntR R x also:=fun i e he hi=>by
  have:=hq i e he
  have h2:decide (m ≤ i)=false:=by simp;omega
  rw [h2] at this
  unfold cntR
  cases also with
  | true =>
   have:e.1 ≤ x:=by simp [ah] at this;omega
   simp only [if_true]
   exact zpb h.tn this
  | false =>
   have:e.1 < x:=by simp [ah] at this;omega
   simp only [Bool.false_eq_true,if_false]
   exact znq h.tn this
 have hh:∀ (i:Nat) (e:E),p.es[i]? = some e→m ≤ i→cntR R x also ≤ und R e.1:=fun i e he hi=>by
  have:=hq i e he
  have h2:decide (m ≤ i)=true:=by simp;omega
  rw [h2] at this
  unfold cntR
  cases also with
  | true =>
   have:x < e.1:=by simp [ah] at this;omega
   simp only [if_true]
   exact znq h.tn this
  | false =>
   have:x ≤ e.1:=by simp [ah] at this;omega
   simp only [Bool.false_eq_true,if_false]
   exact zoI h.tn this
 have c0:0 ≤ cntR R x also:=by
  unfold cntR
  split
  ·exact Int.le_trans (zst h.tn x) (zl6 h.tn x)
  ·exact zst h.tn x
 refine ⟨?_,?_,?_⟩
 ·cases m with
  | zero=>simpa [loE] using c0
  | succ m =>
   rw [zlP _ _ (by omega)]
   obtain ⟨q,_,b1,b2,b3,b4⟩:=zx1 h.pl (List.getElem?_eq_getElem (show m < p.es.length by omega))
   have:=hl m _ (List.getElem?_eq_getElem (by omega)) (by omega)
   omega
 ·by_cases hm':m < p.es.length
  ·rw [zu0 _ _ _ hm']
   obtain ⟨q,_,b1,b2,b3,b4⟩:=zx1 h.pl (List.getElem?_eq_getElem hm')
   have:=hh m _ (List.getElem?_eq_getElem hm') (Nat.le_refl _)
   omega
  ·have e:m=p.es.length:=by omega
   rw [e,zr9,h.sz]
   unfold cntR
   split
   ·exact zjp h.tn x
   ·exact Int.le_trans (zl6 h.tn x) (zjp h.tn x)
 ·cases m with
  | zero=>simp [loE]
  | succ m =>
   rw [zlP _ _ (by omega)]
   have:=(zmj _ _ _ _ h.gf.ch _ (List.getElem_mem (show m < p.es.length by omega))).2.1
   omega
end M
namespace M
open PySem L2 V2
theorem zqB {s l d:Int} {es:List E} (h:GF s l d es) (x:Int) (also:Bool) (m:Nat) (hm:m ≤ es.length) (hq:∀ (i:Nat) (e:E),es[i]? = some e→(!ah x also e)=decide (m ≤ i)) :
  hiE s es m - loE es m ≤ l∧0 ≤ loE es m∧0 ≤ hiE s es m:=by
 have hl:=h.l0
 have hs0:=h.s0
 cases m with
 | zero =>
  have h1:loE es 0=0:=rfl
  rw [h1]
  cases es with
  | nil =>
   have:=(zvK h).mpr rfl
   have h2:hiE s [] 0=s:=rfl
   rw [h2];omega
  | cons e r =>
   have f:=(h.fst e r rfl).2
   have h2:hiE s (e :: r) 0=e.2.2 - 1:=rfl
   rw [h2];omega
 | succ k =>
  have hk:k < es.length:=by omega
  rw [zlP es k hk]
  obtain ⟨c1,c2,c3,c4⟩:=zu4 es 0 0 none k es[k] h.ch (List.getElem?_eq_getElem hk)
  have hlo:0 < es[k].2.1:=((zwj h.ch).2.1 es[k] (List.getElem_mem hk))
  by_cases hl2:k + 1 < es.length
  ·rw [zu0 s es (k + 1) hl2]
   obtain ⟨f1,f2,f3,f4⟩:=c4 es[k + 1] (List.getElem?_eq_getElem hl2)
   rw [zek] at f4
   have q1:=hq k es[k] (List.getElem?_eq_getElem hk)
   have q2:=hq (k + 1) es[k + 1] (List.getElem?_eq_getElem hl2)
   have n1:ah x also es[k]=true:=by
    have:¬ k + 1 ≤ k:=by omega
    rw [decide_eq_false this] at q1;simpa using q1
   have n2:ah x also es[k + 1]=false:=by
    rw [decide_eq_true (Nat.le_refl _)] at q2;simpa using q2
   have hne:es[k + 1].1 ≠ es[k].1:=fun z=>by
    unfold ah at n1 n2
    rw [z] at n2;rw [n1] at n2;cases n2
   rcases f4 with z | z
   ·exact absurd z hne
   ·omega
  ·have e:k + 1=es.length:=by omega
   rw [e,zr9]
   obtain ⟨g1,g2⟩:=c3 e
   omega
end M
namespace M
open PySem L2 V2
def unit (ns:List Int):List Rn:=ns.map fun n=>(n,1)
theorem ze6:∀ ns:List Int,whole (unit ns)=ns.length
 | []=>rfl
 | n :: ns=>by
  have:=ze6 ns
  simp only [unit,whole,List.map_cons,List.sum_cons,List.length_cons] at this ⊢
  rw [this];push_cast;omega
theorem zfr (ns:List Int):∀ r ∈ unit ns,1 ≤ r.2:=fun r hr=>by
 obtain ⟨n,_,rfl⟩:=List.mem_map.mp hr
 exact Int.le_refl _
theorem ztM (ns:List Int):(unit ns).length=ns.length:=by simp [unit]
theorem zkU (ns:List Int) (hl:ns.length ≤ 63) (a:A) (Ω:Sto) (ha:∀ Δ,zbl (Ω ++ Δ) a=some (ns.map A.int)):zaR [a] Ω=some (.ok (encQ (ofPo (unit ns))),Ω):=by
 have h0:zbl Ω a=some (ns.map A.int):=by have:=ha [];simpa using this
 have q:zhE [some a] Ω=some (.ok (.lst (zah (unit ns))),Ω):=by
  have e:zah (unit ns)=ns.map fun n=>A.tup [.int n, .int 1]:=by simp [zah,unit,encT]
  rw [e]
  exact zn3 (n:=1) (js:=[]) (fi:=vSeq (vVar 0)) (g:=gN 0) (ρ:=[some a]) (Ω:=Ω) (Ω0:=Ω) (S:=srcOf a (ns.map A.int)) ns (fun n=>A.int n) (fun n=>A.tup [.int n, .int 1]) (fun ρ=>∃ y,ρ=[y]) (fun x y e=>by cases e;rfl)
   (by simp [h0]) (fun ys=>ha _) ⟨none,by simp [lcEv]⟩ rfl (by omega) (fun n hn ρ hP ys=>by
    obtain ⟨y,rfl⟩:=hP
    have h2:(2:Nat) ≤ sizeLine:=by decide
    exact ⟨[some (.int n)],⟨_,rfl⟩,by simp,by simp [h2]⟩) (fun x _=>by simp [Cl,ClL])
 have r:=zta (unit ns) (zfr ns) (by rw [ztM];omega) (by rw [ze6];omega) Ω
 show trim Ω (outR (zih [some a] Ω))=_
 have r':zhA [.lst (zah (unit ns))] Ω=some (.ok (encQ (ofPo (unit ns))),Ω):=r
 generalize encQ (ofPo (unit ns))=P at r'
 generalize zah (unit ns)=us at q r'
 simp [zih,q,zat,r']
def thr (s:Int) (es:List E) (j:Nat):Int:=if j=0 then 0 else (loE es j + hiE s es j) / 2
def zdY (s:Int) (es:List E):Nat→List E→List Rn
 | _,[]=>[]
 | k,e :: r=>(e.1,thr s es (k + 1) - thr s es k) :: zdY s es (k + 1) r
def midR (s:Int) (es:List E):List Rn:=zdY s es 0 es
theorem zoq (ok:Sto→Prop) (hok:∀ Ω,ok Ω) (s l d:Int) (es:List E) (Ω:Sto):∀ (rest:List E) (k:Nat) (done:List A) (x3 x4 x5:Option A),k + rest.length=es.length→done.length + rest.length ≤ 1000 →
  ∃ z2 z3 z4 z5,fFor ok (zeh 2 (zaG (gN 3) (zaG (gN 4) zeF))) zhl (zaZ (k + 1) (encL rest)) [some (encP s l d es),some (.cel Ω.length),some (.int (thr s es k)),x3,x4,x5] (Ω ++ [.lst done])=some (.nx,[some (encP s l d es),some (.cel Ω.length),z2,z3,z4,z5],Ω ++ [.lst (done ++ zah (zdY s es k rest))])
 | [],k,done,x3,x4,x5,_,_=>⟨some (.int (thr s es k)),x3,x4,x5,by simp [encL,zaZ,fFor,hok,zdY,zah]⟩
 | e :: rest,k,done,x3,x4,x5,hk,hl=>by
  have hk':k + (rest.length + 1)=es.length:=hk
  have hl':done.length + (rest.length + 1) ≤ 1000:=hl
  obtain ⟨z2,z3,z4,z5,q⟩:=zoq ok hok s l d es Ω rest (k + 1) (done ++ [encT (e.1,thr s es (k + 1) - thr s es k)]) (some (.int ((k + 1:Nat):Int))) (some (encE e)) (some (.int (thr s es (k + 1)))) (by omega) (by simp;omega)
  refine ⟨z2,z3,z4,z5,?_⟩
  have el:done ++ zah (zdY s es k (e :: rest))=(done ++ [encT (e.1,thr s es (k + 1) - thr s es k)]) ++ zah (zdY s es (k + 1) rest):=by simp [zdY,zah]
  rw [el,← q]
  have b:=ztL s l d es (k + 1) (Ω ++ [.lst done]) (by omega)
  have h2:(2:Nat) ≤ sizeLine:=by decide
  have d2:CDiv (loE es (k + 1) + hiE s es (k + 1)) 2:=⟨by decide,by decide⟩
  have et:thr s es (k + 1)=(loE es (k + 1) + hiE s es (k + 1)) / 2:=by simp [thr]
  have cl:zfL (Ω ++ [Cell.lst done]) (.cel Ω.length)=some (Ω.length,done):=zcp (by simp)
  have il:isL (Ω ++ [Cell.lst done]) (.cel Ω.length):=zg0 (zaH (ds:=done) (by simp))
  have hz:done.length < sizeLine:=by rw [sizeLine_eq];omega
  have ee:zaZ (k + 1) (encL (e :: rest)) = .tup [.int ((k + 1:Nat):Int),encE e] :: zaZ (k + 1 + 1) (encL rest):=rfl
  rw [ee]
  refine za7 (hok _) (ρ0:=[some (encP s l d es),some (.cel Ω.length),some (.int (thr s es k)),some (.int ((k + 1:Nat):Int)),some (encE e),x5]) (Ω0:=Ω ++ [.lst done]) (by
   generalize encP s l d es=P
   simp) ?_
  unfold zhl
  rw [et]
  generalize thr s es k=tk
  generalize hlo:loE es (k + 1)=lo at b d2
  generalize hhi:hiE s es (k + 1)=hi at b d2
  generalize encP s l d es=P at b
  generalize ((k + 1:Nat):Int)=kk at b
  rw [zap (ρ1:=[some P,some (.cel Ω.length),some (.int tk),some (.int kk),some (encE e),some (.int ((lo + hi) / 2))]) (Ω':=Ω ++ [.lst done]) (by simp [zat,b,intsOf,d2])]
  rw [zap (ρ1:=[some P,some (.cel Ω.length),some (.int tk),some (.int kk),some (encE e),some (.int ((lo + hi) / 2))]) (Ω':=Ω ++ [.lst (done ++ [encT (e.1,(lo + hi) / 2 - tk)])]) (by
   simp [cl,il,hz,h2,encE,encT,zhM])]
  simp
theorem zt8 (s l d:Int) (es:List E) (hz:es.length ≤ 1000) (Ω:Sto):zfx [encP s l d es] Ω=some (.ok (.lst (zah (midR s es))),Ω):=by
 obtain ⟨z2,z3,z4,z5,q⟩:=zoq (fun Ω'=>zaD Ω' (.lst (encL es))=some (encL es)) (fun _=>rfl) s l d es Ω es 0 [] none none none (by omega) (by simpa using hz)
 show trim Ω (outR (zi5 [some (encP s l d es),none,none,none,none,none] Ω))=_
 have e:zi5 [some (encP s l d es),none,none,none,none,none] Ω=some (.ret (.lst (zah (midR s es))),[some (encP s l d es),some (.cel Ω.length),z2,z3,z4,z5],Ω ++ [.dead]):=by
  unfold zi5
  rw [zap (ρ1:=[some (encP s l d es),some (.cel Ω.length),none,none,none,none]) (Ω':=Ω ++ [.lst []]) (by
   generalize encP s l d es=P
   simp [mkL])]
  rw [zap (ρ1:=[some (encP s l d es),some (.cel Ω.length),some (.int 0),none,none,none]) (Ω':=Ω ++ [.lst []]) (by
   generalize encP s l d es=P
   simp)]
  rw [zap (ρ1:=[some (encP s l d es),some (.cel Ω.length),z2,z3,z4,z5]) (Ω':=Ω ++ [.lst (zah (midR s es))]) (by
   rw [forO (S:=zlR (.lst (encL es)) (encL es)) (Ω':=Ω ++ [.lst []]) (by simp [encP,zjo])]
   rw [List.nil_append] at q
   exact q)]
  generalize zah (midR s es)=us
  generalize encP s l d es=P
  simp
 rw [e]
 simp only [zd5]
 exact zgE (by
  simp only [Cl]
  exact zsL _ _)
theorem zqM (r:Rn) (R:List Rn) (x:Int) (also:Bool):cntR (r :: R) x also=(if ah x also (r.1,0,0)=true then r.2 else 0) + cntR R x also:=by
 unfold cntR ah
 obtain ⟨c1,c2⟩:=zdL r R x
 cases also with
 | false =>
  simp only [Bool.false_eq_true,if_false,Bool.false_and,Bool.or_false,decide_eq_true_eq]
  exact c1
 | true =>
  simp only [if_true,Bool.true_and,Bool.or_eq_true,decide_eq_true_eq]
  rw [c2]
  congr 1
  by_cases h:r.1 ≤ x
  ·rw [if_pos h,if_pos (by omega)]
  ·rw [if_neg h,if_neg (by omega)]
theorem zrN (s:Int) (es:List E) (x:Int) (also:Bool) (m:Nat) (hm:m ≤ es.length) (hq:∀ (i:Nat) (e:E),es[i]? = some e→(!ah x also e)=decide (m ≤ i)):∀ (rest:List E) (k:Nat),k ≤ es.length→es.drop k=rest→cntR (zdY s es k rest) x also=if k ≤ m then thr s es m - thr s es k else 0
 | [],k,hkl,hd=>by
  have hk:es.length ≤ k:=by simpa using hd
  have e0:cntR (zdY s es k []) x also=0:=by cases also <;> simp [zdY,cntR,und,upt]
  rw [e0]
  split
  ·have:k=m:=by omega
   rw [this];omega
  ·rfl
 | e :: rest,k,hkl,hd=>by
  have hk:k < es.length:=by
   rcases Nat.lt_or_ge k es.length with z | z
   ·exact z
   ·rw [List.drop_of_length_le z] at hd;cases hd
  have he:es[k]? = some e:=by
   have:=congrArg (fun l=>l[0]?) hd
   simpa using this
  have ih:=zrN s es x also m hm hq rest (k + 1) (by omega) (by rw [← List.drop_drop,hd];rfl)
  have ha:=hq k e he
  rw [zdY,zqM,ih]
  have ea:ah x also (e.1,0,0)=ah x also e:=rfl
  show (if ah x also (e.1,0,0)=true then thr s es (k + 1) - thr s es k else 0) + _=_
  rw [ea]
  by_cases hkm:m ≤ k
  ·have h1:ah x also e=false:=by simpa [hkm] using ha
   rw [h1,if_neg (by omega:¬ k + 1 ≤ m)]
   simp only [Bool.false_eq_true,if_false]
   by_cases hkm2:k ≤ m
   ·have:k=m:=by omega
    rw [if_pos hkm2,this];omega
   ·rw [if_neg hkm2];rfl
  ·have h1:ah x also e=true:=by
    cases hh:ah x also e with
    | true=>rfl
    | false=>rw [hh] at ha;simp at ha;omega
   rw [h1,if_pos (by omega:k + 1 ≤ m),if_pos (by omega:k ≤ m)]
   simp only [if_true]
   omega
theorem zuB {R:List Rn} {p:Po} (h:Gd R p) (x:Int) (also:Bool):cntR (midR p.s p.es) x also - p.l ≤ cntR R x also∧cntR R x also ≤ cntR (midR p.s p.es) x also + p.l:=by
 obtain ⟨m,hm,hq⟩:=zv5 h.gf x also
 obtain ⟨b1,b2,b3⟩:=bnd h x also m hm hq
 obtain ⟨c1,c2,c3⟩:=zqB h.gf x also m hm hq
 have e:=zrN p.s p.es x also m hm hq p.es 0 (Nat.zero_le _) rfl
 rw [if_pos (Nat.zero_le _)] at e
 have e':cntR (midR p.s p.es) x also=thr p.s p.es m:=by
  show cntR (zdY p.s p.es 0 p.es) x also=_
  rw [e];simp [thr]
 rw [e']
 have hl:=h.gf.l0
 unfold thr
 by_cases h0:m=0
 ·rw [if_pos h0]
  subst h0
  have l0:loE p.es 0=0:=rfl
  have h1:hiE p.s p.es 0=0:=by
   unfold hiE
   cases hes:p.es with
   | nil =>
    have:=h.gf.ch
    rw [hes] at this
    have z:(0:Int)=p.s∧_:=this
    simp;omega
   | cons e r =>
    have:=(h.gf.fst e r hes).2
    simp;omega
  omega
 ·rw [if_neg h0]
  omega
theorem zsc {l s:Int}:∀ {es:List E} {lo hp:Int} {pr:Option Int},Ch l s lo hp pr es→∀ e,es[es.length - 1]? = some e→e.2.1=s
 | [],_,_,_,_,e,he=>by simp at he
 | [f],_,_,_,h,e,he=>by
  obtain ⟨_,_,_,_,_,_,h7⟩:=h
  simp at he
  subst he
  exact h7.1
 | f :: g :: r,_,_,_,h,e,he=>by
  obtain ⟨_,_,_,_,_,_,h7⟩:=h
  exact zsc h7 e (by simpa using he)
theorem zqR (s:Int) (es:List E):∀ (rest:List E) (k:Nat),whole (zdY s es k rest)=thr s es (k + rest.length) - thr s es k
 | [],k=>by simp [zdY,whole]
 | e :: rest,k=>by
  have ih:=zqR s es rest (k + 1)
  have e1:whole (zdY s es k (e :: rest))=(thr s es (k + 1) - thr s es k) + whole (zdY s es (k + 1) rest):=by simp [zdY,whole]
  rw [e1,ih,List.length_cons,show k + 1 + rest.length=k + (rest.length + 1) by omega]
  omega
theorem zsW {R:List Rn} {p:Po} (h:Gd R p):whole (midR p.s p.es)=p.s:=by
 have e:=zqR p.s p.es p.es 0
 show whole (zdY p.s p.es 0 p.es)=_
 rw [e,Nat.zero_add]
 have t0:thr p.s p.es 0=0:=rfl
 rw [t0]
 unfold thr
 cases hes:p.es with
 | nil =>
  have:=h.gf.ch
  rw [hes] at this
  have z:(0:Int)=p.s∧_:=this
  simp;omega
 | cons f r =>
  have hn:¬ (f :: r).length=0:=by simp
  rw [if_neg hn]
  have hh:hiE p.s (f :: r) (f :: r).length=p.s:=by simp [hiE]
  have hlt:(f :: r).length - 1 < (f :: r).length:=by simp
  have hg:(f :: r)[(f :: r).length - 1]? = some (f :: r)[(f :: r).length - 1]:=List.getElem?_eq_getElem hlt
  have hc:=h.gf.ch
  rw [hes] at hc
  have hl:=zsc hc _ hg
  have lo:loE (f :: r) (f :: r).length=p.s:=by
   unfold loE
   rw [if_neg hn,hg]
   exact hl
  rw [hh,lo]
  omega
theorem zqC (s:Int) (es:List E):∀ (rest:List E) (k:Nat),(zdY s es k rest).length=rest.length
 | [],_=>rfl
 | _ :: rest,k=>by simp [zdY,zqC s es rest (k + 1)]
theorem zrL (s:Int) (es:List E):∀ (rest:List E) (k:Nat),(zdY s es k rest).map (·.1)=rest.map (·.1)
 | [],_=>rfl
 | e :: rest,k=>by simp [zdY,zrL s es rest (k + 1)]
end M
namespace M
open PySem PyProof L2 V2
theorem zqO (c k:Int) (hc:0 ≤ c) (hc1:c < 8589934592):∃ n,∀ Ω,zas [.int c, .int k] Ω=some (.ok (.int n),Ω):=by
 have h1:∀ j,CMul c j:=fun j=>zkT (by omega) (by omega)
 have h2:∀ j,CMul 2 j:=fun j=>zkT (by decide) (by decide)
 have h2':∀ j,CMul j 48271:=fun j=>zqE (by decide) (by decide)
 have h3:CPow 10 18:=⟨by decide,by decide,by decide⟩
 have h4:CPow 10 59:=⟨by decide,by decide,by decide⟩
 have h5:CPow 10 60:=⟨by decide,by decide,by decide⟩
 have hd:∀ j,CDiv j 14:=fun j=>⟨by decide,by decide⟩
 have hs:(4:Nat) ≤ sizeLine:=by decide
 have hs3:(3:Nat) ≤ sizeLine:=by decide
 by_cases k0:k=0
 ·exact ⟨c % 7,fun Ω=>by simp [zas,zaA,k0]⟩
 by_cases k1:k=1
 ·exact ⟨c % 100 - 50,fun Ω=>by simp [zas,zaA,k1]⟩
 by_cases k2:k=2
 ·exact ⟨c * c * 48271 % (2 * 10 ^ 18 + 1) - 10 ^ 18,fun Ω=>by simp [zas,zaA,k2,h1,h2,h2',h3]⟩
 by_cases k3:k=3
 ·have hm:c % 4=0∨c % 4=1∨c % 4=2∨c % 4=3:=by omega
  rcases hm with e | e | e | e
  ·exact ⟨10 ^ 59 + c,fun Ω=>by simp [zas,zaA,k3,e,h4,h5,hs]⟩
  ·exact ⟨0 - 10 ^ 59 - c,fun Ω=>by simp [zas,zaA,k3,e,h4,h5,hs]⟩
  ·exact ⟨10 ^ 60 - 1,fun Ω=>by simp [zas,zaA,k3,e,h4,h5,hs]⟩
  ·exact ⟨1 - 10 ^ 60,fun Ω=>by simp [zas,zaA,k3,e,h4,h5,hs]⟩
 ·have hm:c % 30 / 14=0∨c % 30 / 14=1∨c % 30 / 14=2:=by omega
  rcases hm with e | e | e
  ·exact ⟨5,fun Ω=>by simp [zas,zaA,k0,k1,k2,k3,e,hd,hs3]⟩
  ·exact ⟨0 - 5,fun Ω=>by simp [zas,zaA,k0,k1,k2,k3,e,hd,hs3]⟩
  ·exact ⟨0,fun Ω=>by simp [zas,zaA,k0,k1,k2,k3,e,hd,hs3]⟩
end M
namespace M
open PySem L2 V2
abbrev Sg:=List Int
def mnL:Sg→Int
 | []=>0
 | x :: r=>if r=[] then x else min x (mnL r)
def mxL:Sg→Int
 | []=>0
 | x :: r=>if r=[] then x else max x (mxL r)
def sgE (g:Sg):A := .tup [.int g.length, .int g.sum, .int (mnL g), .int (mxL g)]
def zyv:List (List Sg)→List Sg
 | []=>[]
 | S :: r=>zyv r ++ S
def zz8 (L:List (List Sg)):List Int:=(zyv L).flatten
def Lv (k:Nat):Nat→List (List Sg)→Prop
 | _,[]=>True
 | j,S :: r=>(∀ g ∈ S,g.length=2 ^ j)∧S ≠ []∧S.length ≤ k∧(r ≠ []→k ≤ S.length + 1)∧Lv k (j + 1) r
def fsS (k m:Nat) (cs:List Nat):List (Str × Fd):=[("keep", .val (.int k)),("many", .val (.int m)),("levels", .lst (cs.map A.cel))]
structure zeM (Ω:Sto) (s k m:Nat) (L:List (List Sg)) (cs:List Nat):Prop where
 obj:Ω[s]? = some (.ins "Sums" (fsS k m cs))
 len:cs.length=L.length
 cel:∀ (j c:Nat) (S:List Sg),cs[j]? = some c→L[j]? = some S→Ω[c]? = some (.lst (S.map sgE))
 nd:cs.Nodup
 ns:s ∉ cs
structure FrS (Ω Ω':Sto) (s:Nat) (cs cs':List Nat):Prop where
 le:Ω.length ≤ Ω'.length
 eq:∀ i,i < Ω.length→i ≠ s→i ∉ cs→Ω'[i]? = Ω[i]?
 new:∀ c ∈ cs',c ∈ cs∨Ω.length ≤ c
theorem FrS.refl (Ω:Sto) (s:Nat) (cs:List Nat):FrS Ω Ω s cs cs:=⟨Nat.le_refl _,fun _ _ _ _=>rfl,fun _ h => .inl h⟩
theorem FrS.trans {Ω Ω1 Ω2:Sto} {s:Nat} {cs cs1 cs2:List Nat} (a:FrS Ω Ω1 s cs cs1) (b:FrS Ω1 Ω2 s cs1 cs2):FrS Ω Ω2 s cs cs2 where
 le:=Nat.le_trans a.le b.le
 eq:=fun i hi hs hc=>by
  rw [b.eq i (Nat.lt_of_lt_of_le hi a.le) hs (fun z=>by
   rcases a.new i z with q | q
   ·exact hc q
   ·omega),a.eq i hi hs hc]
 new:=fun c hc=>by
  rcases b.new c hc with z | z
  ·exact a.new c z
  ·exact .inr (Nat.le_trans a.le z)
section
variable {Ω:Sto} {s k m:Nat} {L:List (List Sg)} {cs:List Nat}
theorem zeM.lt (h:zeM Ω s k m L cs):s < Ω.length:=(List.getElem?_eq_some_iff.mp h.obj).1
theorem zeM.clt (h:zeM Ω s k m L cs) {j c:Nat} (hj:cs[j]? = some c):c < Ω.length∧c ≠ s:=by
 have hl:=(List.getElem?_eq_some_iff.mp hj).1
 have:=h.cel j c (L[j]'(by rw [← h.len];exact hl)) hj (List.getElem?_eq_getElem _)
 exact ⟨(List.getElem?_eq_some_iff.mp this).1,fun e=>h.ns (e ▸ List.mem_of_getElem? hj)⟩
theorem zzQ {cs:List Nat} (h:cs.Nodup) {i j c:Nat} (hi:cs[i]? = some c) (hj:cs[j]? = some c):i=j:=zer h hi hj
theorem zeM.upd (h:zeM Ω s k m L cs) {j c:Nat} {S':List Sg} (hj:cs[j]? = some c):zeM (Ω.set c (.lst (S'.map sgE))) s k m (L.set j S') cs∧FrS Ω (Ω.set c (.lst (S'.map sgE))) s cs cs:=by
 obtain ⟨c1,c2⟩:=h.clt hj
 have hjl:j < L.length:=by rw [← h.len];exact (List.getElem?_eq_some_iff.mp hj).1
 refine ⟨⟨by rw [List.getElem?_set_ne c2];exact h.obj,by simp [h.len],fun i d S hi hS=>?_,h.nd,h.ns⟩,⟨by simp,fun i hi hs hc=>?_,fun _ z => .inl z⟩⟩
 ·by_cases e:i=j
  ·subst e
   rw [hj] at hi;cases hi
   rw [List.getElem?_set_self hjl] at hS;cases hS
   exact List.getElem?_set_self c1
  ·rw [List.getElem?_set_ne (Ne.symm e)] at hS
   have:c ≠ d:=fun z=>e (zzQ h.nd (z ▸ hi) hj)
   rw [List.getElem?_set_ne this]
   exact h.cel i d S hi hS
 ·have:c ≠ i:=fun z=>hc (z ▸ List.mem_of_getElem? hj)
  rw [List.getElem?_set_ne this]
theorem zeM.new (h:zeM Ω s k m L cs):zeM (Ω.set s (.ins "Sums" (fsS k m (cs ++ [Ω.length]))) ++ [.lst []]) s k m (L ++ [[]]) (cs ++ [Ω.length])∧FrS Ω (Ω.set s (.ins "Sums" (fsS k m (cs ++ [Ω.length]))) ++ [.lst []]) s cs (cs ++ [Ω.length]):=by
 have hs:=h.lt
 have hcs:∀ c ∈ cs,c < Ω.length:=fun c hc=>by
  obtain ⟨j,hj,e⟩:=List.getElem_of_mem hc
  exact (h.clt (j:=j) (by rw [← e];exact List.getElem?_eq_getElem hj)).1
 refine ⟨⟨?_,by simp [h.len],fun i d S hi hS=>?_,?_,?_⟩,⟨by simp,fun i hi hs' hc=>?_,fun c hc=>?_⟩⟩
 ·rw [List.getElem?_append_left (by simpa using hs),List.getElem?_set_self hs]
 ·by_cases e:i < cs.length
  ·rw [List.getElem?_append_left e] at hi
   rw [List.getElem?_append_left (by rw [← h.len];exact e)] at hS
   have:=h.clt hi
   rw [List.getElem?_append_left (by simpa using this.1),List.getElem?_set_ne (Ne.symm this.2)]
   exact h.cel i d S hi hS
  ·have e2:i=cs.length:=by
    have:=(List.getElem?_eq_some_iff.mp hi).1
    simp at this;omega
   subst e2
   rw [List.getElem?_append_right (Nat.le_refl _)] at hi
   simp at hi;subst hi
   rw [List.getElem?_append_right (by rw [h.len];exact Nat.le_refl _),h.len] at hS
   simp at hS;subst hS
   rw [List.getElem?_append_right (by simp)];simp
 ·rw [List.nodup_append]
  exact ⟨h.nd,by simp,fun a ha b hb=>by simp at hb;have:=hcs a ha;omega⟩
 ·simp;exact ⟨h.ns,by omega⟩
 ·rw [List.getElem?_append_left (by simpa using hi),List.getElem?_set_ne (Ne.symm hs')]
 ·rcases List.mem_append.mp hc with z | z
  ·exact .inl z
  ·simp at z;right;omega
end
end M
namespace M
open PySem L2 V2
theorem zxQ {c:Ev→Mo Bool} {f g:MS} {ρ:Ev} {Ω Ω':Sto} (h:c ρ Ω=some (.ok true,Ω')):sIf c f g ρ Ω=f ρ Ω':=by
 unfold sIf
 rw [ze1 h]
 simp
theorem zAj (Ω:Sto) (a b c:Cell):(Ω ++ [a,b]).set Ω.length c=Ω ++ [c,b]:=by simp
theorem zAl (Ω:Sto) (a b c:Cell):(Ω ++ [a,b]).set (Ω.length + 1) c=Ω ++ [a,c]:=by
 rw [List.set_append_right _ _ (by omega)];simp
end M
namespace M
open PySem L2 V2
end M
namespace M
open PySem L2 V2
end M
namespace M
open PySem L2 V2
section
variable {Ω:Sto} {s k m:Nat} {L:List (List Sg)} {cs:List Nat}
theorem zeM.many (h:zeM Ω s k m L cs) (m':Nat):zeM (Ω.set s (.ins "Sums" (fsS k m' cs))) s k m' L cs∧FrS Ω (Ω.set s (.ins "Sums" (fsS k m' cs))) s cs cs:=by
 refine ⟨⟨List.getElem?_set_self h.lt,h.len,fun j c S hj hS=>?_,h.nd,h.ns⟩,⟨by simp,fun i hi hs hc=>by rw [List.getElem?_set_ne (Ne.symm hs)],fun _ z => .inl z⟩⟩
 rw [List.getElem?_set_ne (Ne.symm (h.clt hj).2)]
 exact h.cel j c S hj hS
end
end M
namespace M
open PySem L2 V2
end M
namespace M
open PySem L2 V2
def okE (s l:Int) (n i:Nat) (p e:E):Prop:=(i=0→e.2.1=1∧e.2.2=1)∧(i + 1=n→e.2.1=s∧e.2.2=s)∧(e.2.1 ≤ e.2.2∧e.2.2 - e.2.1 ≤ l)∧(i ≠ 0→(p.1 ≤ e.1∧p.2.1 < e.2.1∧p.2.2 < e.2.2)∧zha l p e=true)
instance (s l:Int) (n i:Nat) (p e:E):Decidable (okE s l n i p e):=by unfold okE;infer_instance
end M
namespace M
open PySem L2 V2
end M
namespace M
open PySem L2 V2
end M
namespace M
open PySem L2 V2
end M
namespace M
open PySem L2 V2
end M
namespace M
open PySem L2 V2
theorem zq6 {f g:MS} {ρ ρ1:Ev} {Ω Ω':Sto} {x:Exc} (h:f ρ Ω=some (.exc x,ρ1,Ω')):sSeq f g ρ Ω=some (.exc x,ρ1,Ω'):=by unfold sSeq;rw [h]
theorem zo7 {x:Exc} {Ω:Sto}:trim Ω (some (.exc x,Ω))=some (.exc x,Ω):=by simp only [trim];split <;> rfl
end M
namespace M
open PySem L2 V2
inductive Due | row (j:Nat) | pouch (j:Nat) | size | wrong (j:Nat) | good
end M
namespace M
open PySem L2 V2
end M
namespace M
open PySem L2 V2
def wF (L b k n:Int) (fl nw:List A):List (Str × Fd):=[("reach", .val (.int L)),("block", .val (.int b)),("keep", .val (.int k)),("many", .val (.int n)),("full", .lst fl),("newest", .lst nw)]
theorem ze0 {ρ:Ev} {Ω:Sto} {s:Nat} {fs:List (Str × Fd)} {f:Str} {a:A} (h0:ρ[0]? = some (some (.cel s))) (ho:Ω[s]? = some (.ins "Window" fs)) (hl:fs.lookup f=some (.val a)):(vFld ["Window"] f (vVar 0)) ρ Ω=some (.ok a,Ω):=by
 have e:(vVar 0) ρ Ω=some (.ok (.cel s),Ω):=by simp [h0]
 unfold vFld
 rw [zaV e]
 simp [ho,hl]
theorem zn6 {ρ:Ev} {Ω:Sto} {s:Nat} {fs:List (Str × Fd)} {f:Str} {ds:List A} (h0:ρ[0]? = some (some (.cel s))) (ho:Ω[s]? = some (.ins "Window" fs)) (hl:fs.lookup f=some (.lst ds)):(zgK ["Window"] 0 f) ρ Ω=some (.ok (.int ds.length),Ω):=by
 have e:=zrs (cs:=["Window"]) (f:=f) (fd := .lst ds) h0 ho (by simp) hl
 unfold zgK
 rw [e]
theorem zl0 {i:Nat} {f:Str} {g:MS} {ρ ρ':Ev} {Ω:Sto} {s:Nat} {cls:Str} {fs:List (Str × Fd)} {fd fd':Fd} {c c':Cell} (h1:ρ[i]? = some (some (.cel s))) (h2:Ω[s]? = some (.ins cls fs)) (h3:fs.lookup f=some fd) (h4:fd.cell=some c)
  (h5:g ρ (lent Ω s cls f fs c)=some (.nx,ρ',lent Ω s cls f fs c')) (h6:fd'.cell=some c') (h7:fd'=fd∨ClF Ω.length fd') (h8:∀ (j:Nat) (d:A),ρ'[j]? = some (some d)→ρ[j]? = some (some d)∨Cl Ω.length d):zgU i f g ρ Ω=some (.nx,ρ',Ω.set s (.ins cls (putD f fd' fs))):=by
 have hs:s < Ω.length:=(List.getElem?_eq_some_iff.mp h2).1
 refine zoy (r:=(.nx,ρ',Ω.set s (.ins cls (putD f fd' fs)))) ⟨s,cls,fs,fd,c,Ω.set s (.ins cls (putD f (.val (.cel Ω.length)) fs)),fd',c',h1,h2,h3,h4,h5,by simp,List.getElem?_set_self hs,h6,fun k x hk hx => .inl (by rw [List.getElem?_set_ne (Ne.symm hk)] at hx;exact hx),h7,h8,rfl,by rw [List.set_set]⟩
theorem zs5 {i:Nat} {f:Str} {g:Ev→Mo A} {ρ:Ev} {Ω:Sto} {s:Nat} {cls:Str} {fs:List (Str × Fd)} {fd:Fd} {c:Cell} {a:A} (h1:ρ[i]? = some (some (.cel s))) (h2:Ω[s]? = some (.ins cls fs)) (h3:fs.lookup f=some fd) (h4:fd.cell=some c)
  (h5:g ρ (lent Ω s cls f fs c)=some (.ok a,lent Ω s cls f fs c)) (h6:Cl Ω.length a):zjW i f g ρ Ω=some (.ok a,Ω):=by
 have hs:s < Ω.length:=(List.getElem?_eq_some_iff.mp h2).1
 have e:Ω.set s (.ins cls (putD f fd fs))=Ω:=by
  rw [zhX h3]
  apply List.ext_getElem?
  intro j
  by_cases hj:s=j
  ·subst hj
   rw [List.getElem?_set_self hs,h2]
  ·rw [List.getElem?_set_ne hj]
 have:=zra (i:=i) (f:=f) (g:=g) (ρ:=ρ) (Ω:=Ω) (r:=(.ok a,Ω)) ⟨s,cls,fs,fd,c,Ω.set s (.ins cls (putD f (.val (.cel Ω.length)) fs)),fd,c,a,h1,h2,h3,h4,h5,by simp,List.getElem?_set_self hs,h4,fun k x hk hx => .inl (by rw [List.getElem?_set_ne (Ne.symm hk)] at hx;exact hx), .inl rfl,h6,by rw [List.set_set,e]⟩
 exact this
theorem zms {Ω:Sto} {s:Nat} {cls f:Str} {fs:List (Str × Fd)} {c:Cell} (h:s < Ω.length):(lent Ω s cls f fs c)[s]? = some (.ins cls (putD f (.val (.cel Ω.length)) fs)):=by
 rw [List.getElem?_append_left (by simpa using h),List.getElem?_set_self h]
theorem zmY {Ω:Sto} {s:Nat} {cls f:Str} {fs:List (Str × Fd)} {c:Cell}:(lent Ω s cls f fs c)[Ω.length]? = some c:=by
 rw [List.getElem?_append_right (by simp)];simp
theorem zox (n:Nat) (ps:List Po):ClL n (ps.map encQ):=ziC fun a ha=>by
 obtain ⟨p,_,rfl⟩:=List.mem_map.mp ha
 exact zwS n p
theorem zws (n:Nat) (ns:List Int):ClL n (ns.map A.int):=ziC fun a ha=>by
 obtain ⟨p,_,rfl⟩:=List.mem_map.mp ha
 simp only [Cl]
def WAt (Ω:Sto) (s:Nat) (L b k n:Int) (ps:List Po) (ns:List Int):Prop:=Ω[s]? = some (.ins "Window" (wF L b k n (ps.map encQ) (ns.map A.int)))
def w1 (L:Int):List (Str × Fd):=[("reach", .val (.int L))]
def w2 (L b:Int):List (Str × Fd):=[("reach", .val (.int L)),("block", .val (.int b))]
def w3 (L b k:Int):List (Str × Fd):=[("reach", .val (.int L)),("block", .val (.int b)),("keep", .val (.int k))]
def w4 (L b k:Int):List (Str × Fd):=[("reach", .val (.int L)),("block", .val (.int b)),("keep", .val (.int k)),("many", .val (.int 0))]
def w5 (L b k:Int):List (Str × Fd):=[("reach", .val (.int L)),("block", .val (.int b)),("keep", .val (.int k)),("many", .val (.int 0)),("full", .lst [])]
theorem zvs (L b k:Int) (Ω:Sto):(zqg "Window" 4 za3 [.int L, .int b, .int k]) Ω=some (.ok (.cel Ω.length),Ω ++ [.ins "Window" (wF L b k 0 [] [])]):=by
 have e:za3 [.cel Ω.length, .int L, .int b, .int k] (Ω ++ [.ins "Window" []])=some (.ok .non,Ω ++ [.ins "Window" (wF L b k 0 [] [])]):=by
  show trim (Ω ++ [.ins "Window" []]) (outR (zby [some (.cel Ω.length),some (.int L),some (.int b),some (.int k)] (Ω ++ [.ins "Window" []])))=_
  have e1:zby [some (.cel Ω.length),some (.int L),some (.int b),some (.int k)] (Ω ++ [.ins "Window" []])=some (.nx,[some (.cel Ω.length),some (.int L),some (.int b),some (.int k)],Ω ++ [.ins "Window" (wF L b k 0 [] [])]):=by
   have p1:putD ("reach" : Str) (Fd.val (.int L)) ([] : List (Str × Fd))=(w1 L):=rfl
   have p2:putD ("block" : Str) (Fd.val (.int b)) (w1 L)=(w2 L b):=rfl
   have p3:putD ("keep" : Str) (Fd.val (.int k)) (w2 L b)=(w3 L b k):=rfl
   have p4:putD ("many" : Str) (Fd.val (.int 0)) (w3 L b k)=(w4 L b k):=rfl
   have p5:putD ("full" : Str) (Fd.lst []) (w4 L b k)=(w5 L b k):=rfl
   have p6:putD ("newest" : Str) (Fd.lst []) (w5 L b k)=wF L b k 0 [] []:=rfl
   have l1:(w1 L).length < 1000:=by simp [w1]
   have l2:(w2 L b).length < 1000:=by simp [w2]
   have l3:(w3 L b k).length < 1000:=by simp [w3]
   have l4:(w4 L b k).length < 1000:=by simp [w4]
   have l5:(w5 L b k).length < 1000:=by simp [w5]
   have cf:∀ n,ClF n (.lst []):=fun n=>by simp [ClF,ClL]
   have h0:(0:Nat) ≤ sizeLine:=by decide
   unfold zby
   generalize hρ:([some (.cel Ω.length),some (.int L),some (.int b),some (.int k)] : Ev)=ρ
   rw [zap (ρ1:=ρ) (Ω':=Ω ++ [.ins "Window" (w1 L)]) (by subst hρ;simp [p1])]
   rw [zap (ρ1:=ρ) (Ω':=Ω ++ [.ins "Window" (w2 L b)]) (by subst hρ;simp [p2,l1])]
   rw [zap (ρ1:=ρ) (Ω':=Ω ++ [.ins "Window" (w3 L b k)]) (by subst hρ;simp [p3,l2])]
   rw [zap (ρ1:=ρ) (Ω':=Ω ++ [.ins "Window" (w4 L b k)]) (by subst hρ;simp [p4,l3])]
   have o5:objF ["Window"] 0 ρ (Ω ++ [.ins "Window" (w4 L b k)])=some (Ω.length,("Window" : Str),(w4 L b k)):=by subst hρ;simp [objF]
   have o6:objF ["Window"] 0 ρ (Ω ++ [.ins "Window" (w5 L b k)])=some (Ω.length,("Window" : Str),(w5 L b k)):=by subst hρ;simp [objF]
   rw [zap (ρ1:=ρ) (Ω':=Ω ++ [.ins "Window" (w5 L b k)]) (by
    simp only [zkz,o5]
    simp [mkL,Fd.ofC,cf,p5,l4])]
   simp only [zkz,o6]
   simp [mkL,Fd.ofC,cf,p6,l5]
  rw [e1]
  simp only [zlZ]
  exact zid (by simp)
 simp [zqg,e]
end M
namespace M
open PySem L2 V2
theorem zm4 (ds:List A) (n:Nat) (h:n ≤ ds.length):cutA ds (some (n:Int)) none=ds.drop n:=by
 unfold cutA;rw [HT.zoV,HT.zw9,Nat.min_eq_left h]
 rw [List.take_of_length_le (by simp)]
section
variable {ρ:Ev} {Ω:Sto}
abbrev Gv (f:Ev→Mo A) (ρ:Ev) (Ω:Sto) (a:A):Prop:=f ρ Ω=some (.ok a,Ω)
abbrev GvL (f:Ev→Mo (List A)) (ρ:Ev) (Ω:Sto) (a:List A):Prop:=f ρ Ω=some (.ok a,Ω)
theorem zbF:GvL a0 ρ Ω []:=rfl
theorem zaJ {f:Ev→Mo A} {fs:Ev→Mo (List A)} {x:A} {xs:List A} (h:Gv f ρ Ω x) (hs:GvL fs ρ Ω xs):GvL (zab f fs) ρ Ω (x :: xs):=by
 show (zab f fs) ρ Ω=_
 simp [show f ρ Ω=_ from h,show fs ρ Ω=_ from hs]
theorem zyy {fs:Ev→Mo (List A)} {xs:List A} (h:GvL fs ρ Ω xs) (hl:xs.length ≤ 100000):Gv (vLst false fs) ρ Ω (.lst xs):=by
 have hz:xs.length ≤ sizeLine:=by rw [sizeLine_eq];omega
 show (vLst false fs) ρ Ω=_
 simp [show fs ρ Ω=_ from h,hz]
theorem zqX {f g:Ev→Mo A} {a b:List A} (hf:Gv f ρ Ω (.lst a)) (hg:Gv g ρ Ω (.lst b)) (h:a.length + b.length ≤ 100000):Gv (vOp (gAdd false) f g) ρ Ω (.lst (a ++ b)):=by
 have hz:¬ sizeLine < a.length + b.length:=by rw [sizeLine_eq];omega
 show (vOp (gAdd false) f g) ρ Ω=_
 simp [show f ρ Ω=_ from hf,show g ρ Ω=_ from hg,gCat,zaD,zpH,hz]
theorem cdiv {a b:Int} (h0:0 < b) (h1:b < 1000000):CDiv a b:=⟨by omega,by omega⟩
end
theorem ifNx {t:Ev→Mo Bool} {s:MS} {ρ:Ev} {Ω:Sto} (ht:t ρ Ω=some (.ok false,Ω)):sIf t s sNx ρ Ω=some (.nx,ρ,Ω):=by
 unfold sIf
 rw [ze1 ht]
 simp
theorem retE {f:Ev→Mo A} {ρ:Ev} {Ω:Sto} {a:A} (hf:Gv f ρ Ω a):sRet f ρ Ω=some (.ret a,ρ,Ω):=by
 unfold sRet
 rw [ze1 hf]
theorem ziV {F:List A→Mo A} {f g:Ev→Mo A} {ρ:Ev} {Ω:Sto} {a b x:A} (hf:Gv f ρ Ω a) (hg:Gv g ρ Ω b) (h:F [a,b] Ω=some (.ok x,Ω)):Gv (vCl (zat 2 F) (zab f (zab g a0))) ρ Ω x:=by
 show (vCl _ _) ρ Ω=_
 unfold vCl
 rw [zaV (zaJ hf (zaJ hg zbF))]
 simp [zat,h]
end M
namespace M
open PySem L2 V2
section
variable {Ω:Sto} {s:Nat} {L b k n:Int} {ps:List Po} {ns:List Int}
theorem WAt.lt (h:WAt Ω s L b k n ps ns):s < Ω.length:=(List.getElem?_eq_some_iff.mp h).1
theorem zoA {fl nw:List A}:(wF L b k n fl nw).lookup ("reach" : Str)=some (.val (.int L)):=rfl
theorem zlU {fl nw:List A}:(wF L b k n fl nw).lookup ("block" : Str)=some (.val (.int b)):=rfl
theorem zq1 {fl nw:List A}:(wF L b k n fl nw).lookup ("many" : Str)=some (.val (.int n)):=rfl
theorem zlz {fl nw:List A}:(wF L b k n fl nw).lookup ("full" : Str)=some (.lst fl):=rfl
theorem zhR {fl nw:List A}:(wF L b k n fl nw).lookup ("newest" : Str)=some (.lst nw):=rfl
theorem zwX {fl nw gl:List A}:putD ("full" : Str) (Fd.lst gl) (wF L b k n fl nw)=wF L b k n gl nw:=rfl
theorem zjz {fl nw gl:List A}:putD ("newest" : Str) (Fd.lst gl) (wF L b k n fl nw)=wF L b k n fl gl:=rfl
theorem zvH {fl nw:List A} (m:Int):putD ("many" : Str) (Fd.val (.int m)) (wF L b k n fl nw)=wF L b k m fl nw:=rfl
theorem zwo (h:WAt Ω s L b k n ps ns) (hb:1 ≤ b) (hb1:b ≤ 1000) (hp:ps.length ≤ 1000) (hne:L ≤ ((ps.length:Int) - 1) * b + ns.length→ps ≠ []) :
  zbc [.cel s] Ω=some (.ok .non,if L ≤ ((ps.length:Int) - 1) * b + ns.length then Ω.set s (.ins "Window" (wF L b k n (ps.tail.map encQ) (ns.map A.int))) else Ω):=by
 have hs:=h.lt
 have h':Ω[s]? = some (.ins "Window" (wF L b k n (ps.map encQ) (ns.map A.int))):=h
 show trim Ω (outR (zcj [some (.cel s),none] Ω))=_
 have f1:=zn6 (ρ:=[some (.cel s),none]) (f := "full") rfl h' zlz
 have f2:=zn6 (ρ:=[some (.cel s),none]) (f := "newest") rfl h' zhR
 have f3:=ze0 (ρ:=[some (.cel s),none]) (f := "block") rfl h' zlU
 have l1:(ps.map encQ).length=ps.length:=by simp
 have l2:(ns.map A.int).length=ns.length:=by simp
 rw [l1] at f1
 rw [l2] at f2
 have cm:CMul ((ps.length:Int) - 1) b:=zqE (by omega) (by omega)
 have st:(sAsg (vOp (gAdd false) (vOp (gMul) (vOp (gSub) (zgK ["Window"] 0 "full") (cI 1)) (vFld ["Window"] "block" (vVar 0))) (zgK ["Window"] 0 "newest")) (gN 1)) [some (.cel s),none] Ω=some (.nx,[some (.cel s),some (.int (((ps.length:Int) - 1) * b + ns.length))],Ω):=by
  have e1:(vOp (gSub) (zgK ["Window"] 0 "full") (cI 1)) [some (.cel s),none] Ω=some (.ok (.int ((ps.length:Int) - 1)),Ω):=by
   rw [vOp,zaV f1];simp
  have e2:(vOp (gMul) (vOp (gSub) (zgK ["Window"] 0 "full") (cI 1)) (vFld ["Window"] "block" (vVar 0))) [some (.cel s),none] Ω=some (.ok (.int (((ps.length:Int) - 1) * b)),Ω):=by
   rw [vOp,zaV e1,zaV f3];simp [cm]
  have e3:(vOp (gAdd false) (vOp (gMul) (vOp (gSub) (zgK ["Window"] 0 "full") (cI 1)) (vFld ["Window"] "block" (vVar 0))) (zgK ["Window"] 0 "newest")) [some (.cel s),none] Ω=some (.ok (.int (((ps.length:Int) - 1) * b + ns.length)),Ω):=by
   rw [vOp,zaV e2,zaV f2];simp
  unfold sAsg
  rw [ze1 e3]
  simp
 unfold zcj
 rw [zap st]
 have f4:=ze0 (ρ:=[some (.cel s),some (.int (((ps.length:Int) - 1) * b + ns.length))]) (f := "reach") rfl h' zoA
 have tt:(zaP (vOp gGe (vVar 1) (vFld ["Window"] "reach" (vVar 0)))) [some (.cel s),some (.int (((ps.length:Int) - 1) * b + ns.length))] Ω=some (.ok (decide (L ≤ ((ps.length:Int) - 1) * b + ns.length)),Ω):=by
  have v1:(vVar 1) [some (.cel s),some (.int (((ps.length:Int) - 1) * b + ns.length))] Ω=some (.ok (.int (((ps.length:Int) - 1) * b + ns.length)),Ω):=rfl
  have e:(vOp gGe (vVar 1) (vFld ["Window"] "reach" (vVar 0))) [some (.cel s),some (.int (((ps.length:Int) - 1) * b + ns.length))] Ω=some (.ok (.bl (decide (L ≤ ((ps.length:Int) - 1) * b + ns.length))),Ω):=by
   rw [vOp,zaV v1,zaV f4];simp
  unfold zaP
  rw [zaV e];simp
 generalize ((ps.length:Int) - 1) * b + ns.length=o at *
 by_cases ho:L ≤ o
 ·rw [if_pos ho]
  rw [decide_eq_true ho] at tt
  obtain ⟨p,r,rfl⟩ : ∃ p r,ps=p :: r:=by
   cases ps with
   | nil=>exact absurd rfl (hne ho)
   | cons p r=>exact ⟨p,r,rfl⟩
  have hl:zgU 0 "full" (sExp (vBM zrS (vFld ["Window"] "full" (vVar 0)) (zab (cI 0) a0))) [some (.cel s),some (.int o)] Ω=some (.nx,[some (.cel s),some (.int o)],Ω.set s (.ins "Window" (putD "full" (.lst (r.map encQ)) (wF L b k n ((p :: r).map encQ) (ns.map A.int))))):=by
   refine zl0 (c := .lst ((p :: r).map encQ)) (c' := .lst (r.map encQ)) rfl h' zlz rfl ?_ rfl (.inr (zox _ _)) (fun j d hj => .inl hj)
   have ho2:=zms (cls := "Window") (f := "full") (fs:=wF L b k n ((p :: r).map encQ) (ns.map A.int)) (c := .lst ((p :: r).map encQ)) hs
   have hn2:=zmY (Ω:=Ω) (s:=s) (cls := "Window") (f := "full") (fs:=wF L b k n ((p :: r).map encQ) (ns.map A.int)) (c := .lst ((p :: r).map encQ))
   have hset:(lent Ω s "Window" "full" (wF L b k n ((p :: r).map encQ) (ns.map A.int)) (.lst ((p :: r).map encQ))).set Ω.length (.lst (r.map encQ))=lent Ω s "Window" "full" (wF L b k n ((p :: r).map encQ) (ns.map A.int)) (.lst (r.map encQ)):=zlD _
   generalize lent Ω s "Window" "full" (wF L b k n ((p :: r).map encQ) (ns.map A.int)) (.lst ((p :: r).map encQ))=Ω1 at *
   have g1:=ze0 (ρ:=[some (.cel s),some (.int o)]) (f := "full") (a := .cel Ω.length) rfl ho2 rfl
   have il:isL Ω1 (.cel Ω.length):=zg0 (zaH hn2)
   have cl:zfL Ω1 (.cel Ω.length)=some (Ω.length,(p :: r).map encQ):=zcp hn2
   have e:(vBM zrS (vFld ["Window"] "full" (vVar 0)) (zab (cI 0) a0)) [some (.cel s),some (.int o)] Ω1=some (.ok (encQ p),lent Ω s "Window" "full" (wF L b k n ((p :: r).map encQ) (ns.map A.int)) (.lst (r.map encQ))):=by
    unfold vBM
    rw [zaV g1,← hset]
    simp only [il,if_true]
    rw [List.map_cons] at cl
    simp [cl]
   unfold sExp
   rw [ze1 e]
  unfold sIf
  rw [ze1 tt]
  simp only [if_true]
  rw [hl]
  simp only [zlZ]
  exact zid (by simp)
 ·rw [if_neg ho]
  rw [decide_eq_false ho] at tt
  rw [ifNx tt]
  simp only [zlZ]
  exact ze3
end
end M
namespace M
open PySem L2 V2
theorem ztT {Ω:Sto} {s N:Nat} {X Y Z:Cell} (hN:N ≠ s) (h:Ω[s]? = some Z):((Ω.set s X).set N Y).set s Z=Ω.set N Y:=by
 have hs:s < Ω.length:=(List.getElem?_eq_some_iff.mp h).1
 apply List.ext_getElem?
 intro j
 by_cases hj:s=j
 ·subst hj
  rw [List.getElem?_set_self (by simpa using hs),List.getElem?_set_ne hN,h]
 ·rw [List.getElem?_set_ne hj]
  by_cases hj2:N=j
  ·subst hj2
   by_cases hl:N < Ω.length
   ·rw [List.getElem?_set_self (by simpa using hl),List.getElem?_set_self hl]
   ·rw [List.getElem?_eq_none (by simp;omega),List.getElem?_eq_none (by simp;omega)]
  ·rw [List.getElem?_set_ne hj2,List.getElem?_set_ne hj,List.getElem?_set_ne hj2]
section
variable {Ω:Sto} {s:Nat} {L b k n:Int} {ps:List Po} {ns:List Int}
def blkP (k:Int) (ns:List Int):Po:=zvb k (ofPo (unit ns))
theorem zvl (h:WAt Ω s L b k n ps ns) (hl:ns.length ≤ 63) (hk:1 ≤ k) (hk1:k < 1000000) (hp:ps.length ≤ 1000) (x:Int) :
  zgU 0 "full" (zgU 0 "newest" (sExp (vBM zcS (vFld ["Window"] "full" (vVar 0)) (zab (vCl (zat 2 zbT) (zab (vCl (zat 1 zaR) (zab (vFld ["Window"] "newest" (vVar 0)) a0)) (zab (vFld ["Window"] "keep" (vVar 0)) a0))) a0)))) [some (.cel s),some (.int x)] Ω
   = some (.nx,[some (.cel s),some (.int x)],Ω.set s (.ins "Window" (wF L b k n ((ps ++ [blkP k ns]).map encQ) (ns.map A.int)))):=by
 have hs:=h.lt
 have h':Ω[s]? = some (.ins "Window" (wF L b k n (ps.map encQ) (ns.map A.int))):=h
 have key:zgU 0 "newest" (sExp (vBM zcS (vFld ["Window"] "full" (vVar 0)) (zab (vCl (zat 2 zbT) (zab (vCl (zat 1 zaR) (zab (vFld ["Window"] "newest" (vVar 0)) a0)) (zab (vFld ["Window"] "keep" (vVar 0)) a0))) a0))) [some (.cel s),some (.int x)] (lent Ω s "Window" "full" (wF L b k n (ps.map encQ) (ns.map A.int)) (.lst (ps.map encQ)))
   = some (.nx,[some (.cel s),some (.int x)],lent Ω s "Window" "full" (wF L b k n (ps.map encQ) (ns.map A.int)) (.lst ((ps ++ [blkP k ns]).map encQ))):=by
  have ho:=zms (cls := "Window") (f := "full") (fs:=wF L b k n (ps.map encQ) (ns.map A.int)) (c := .lst (ps.map encQ)) hs
  have hn:=zmY (Ω:=Ω) (s:=s) (cls := "Window") (f := "full") (fs:=wF L b k n (ps.map encQ) (ns.map A.int)) (c := .lst (ps.map encQ))
  have hlen:(lent Ω s "Window" "full" (wF L b k n (ps.map encQ) (ns.map A.int)) (.lst (ps.map encQ))).length=Ω.length + 1:=by simp
  have hset:(lent Ω s "Window" "full" (wF L b k n (ps.map encQ) (ns.map A.int)) (.lst (ps.map encQ))).set Ω.length (.lst ((ps ++ [blkP k ns]).map encQ))=lent Ω s "Window" "full" (wF L b k n (ps.map encQ) (ns.map A.int)) (.lst ((ps ++ [blkP k ns]).map encQ)):=zlD _
  rw [← hset]
  generalize lent Ω s "Window" "full" (wF L b k n (ps.map encQ) (ns.map A.int)) (.lst (ps.map encQ))=ΩA at *
  generalize hfsA:putD ("full" : Str) (Fd.val (.cel Ω.length)) (wF L b k n (ps.map encQ) (ns.map A.int))=fsA at ho
  have lkn:fsA.lookup ("newest" : Str)=some (.lst (ns.map A.int)):=by rw [← hfsA];rfl
  have hsA:s < ΩA.length:=by omega
  have hne:Ω.length ≠ s:=by omega
  have hoB:=zms (cls := "Window") (f := "newest") (fs:=fsA) (c := .lst (ns.map A.int)) hsA
  have hnB:=zmY (Ω:=ΩA) (s:=s) (cls := "Window") (f := "newest") (fs:=fsA) (c := .lst (ns.map A.int))
  have hnA:(lent ΩA s "Window" "newest" fsA (.lst (ns.map A.int)))[Ω.length]? = some (.lst (ps.map encQ)):=by
   rw [List.getElem?_append_left (by simp;omega),List.getElem?_set_ne (Ne.symm hne)];exact hn
  have lB:(lent ΩA s "Window" "newest" fsA (.lst (ns.map A.int)))=ΩA.set s (.ins "Window" (putD "newest" (.val (.cel ΩA.length)) fsA)) ++ [.lst (ns.map A.int)]:=rfl
  refine zoy (r:=(.nx,[some (.cel s),some (.int x)],ΩA.set Ω.length (.lst ((ps ++ [blkP k ns]).map encQ)))) ⟨s, "Window",fsA, .lst (ns.map A.int), .lst (ns.map A.int),(ΩA.set s (.ins "Window" (putD "newest" (.val (.cel ΩA.length)) fsA))).set Ω.length (.lst ((ps ++ [blkP k ns]).map encQ)), .lst (ns.map A.int), .lst (ns.map A.int),rfl,ho,lkn,rfl,?_,by simp,?_,rfl,fun j c hj hc=>?_, .inl rfl,fun j d hj => .inl hj,rfl,?_⟩
  ·
   have fA:(putD ("newest" : Str) (Fd.val (.cel ΩA.length)) fsA).lookup ("full" : Str)=some (.val (.cel Ω.length)):=by rw [← hfsA];rfl
   have fB:(putD ("newest" : Str) (Fd.val (.cel ΩA.length)) fsA).lookup ("newest" : Str)=some (.val (.cel ΩA.length)):=by rw [← hfsA];rfl
   have fC:(putD ("newest" : Str) (Fd.val (.cel ΩA.length)) fsA).lookup ("keep" : Str)=some (.val (.int k)):=by rw [← hfsA];rfl
   have hsetB:(lent ΩA s "Window" "newest" fsA (.lst (ns.map A.int))).set Ω.length (.lst ((ps ++ [blkP k ns]).map encQ))=(ΩA.set s (.ins "Window" (putD "newest" (.val (.cel ΩA.length)) fsA))).set Ω.length (.lst ((ps ++ [blkP k ns]).map encQ)) ++ [.lst (ns.map A.int)]:=by
    rw [lB,List.set_append_left _ _ (by simp;omega)]
   rw [← hsetB]
   generalize lent ΩA s "Window" "newest" fsA (.lst (ns.map A.int))=ΩB at *
   have g1:=ze0 (ρ:=[some (.cel s),some (.int x)]) (f := "full") rfl hoB fA
   have g2:=ze0 (ρ:=[some (.cel s),some (.int x)]) (f := "newest") rfl hoB fB
   have g3:=ze0 (ρ:=[some (.cel s),some (.int x)]) (f := "keep") rfl hoB fC
   have hNB:ΩA.length < ΩB.length:=(List.getElem?_eq_some_iff.mp hnB).1
   have po:=zkU ns hl (.cel ΩA.length) ΩB (fun Δ=>by
    show zaD (ΩB ++ Δ) (.cel ΩA.length)=_
    exact zaH (by rw [List.getElem?_append_left hNB];exact hnB))
   have gd:=zt1 (zfr ns)
   have ol:=zoi (pkd (unit ns)) 0 (fun r hr=>znU (zfr ns) hr)
   rw [zi0,ze6] at ol
   have th:=zrd (ofPo (unit ns)).s (ofPo (unit ns)).l (ofPo (unit ns)).d (ofPo (unit ns)).es k ΩB hk hk1 (by show (ofE 0 (pkd (unit ns))).length ≤ 100000;omega)
   have il:isL ΩB (.cel Ω.length):=zg0 (zaH hnA)
   have cl:zfL ΩB (.cel Ω.length)=some (Ω.length,ps.map encQ):=zcp hnA
   have e1:(vCl (zat 1 zaR) (zab (vFld ["Window"] "newest" (vVar 0)) a0)) [some (.cel s),some (.int x)] ΩB=some (.ok (encQ (ofPo (unit ns))),ΩB):=by
    have a1:(zab (vFld ["Window"] "newest" (vVar 0)) a0) [some (.cel s),some (.int x)] ΩB=some (.ok [.cel ΩA.length],ΩB):=zaJ g2 zbF
    rw [vCl,zaV a1]
    simp [zat,po]
   have e2:(vCl (zat 2 zbT) (zab (vCl (zat 1 zaR) (zab (vFld ["Window"] "newest" (vVar 0)) a0)) (zab (vFld ["Window"] "keep" (vVar 0)) a0))) [some (.cel s),some (.int x)] ΩB=some (.ok (encQ (blkP k ns)),ΩB):=ziV e1 g3 th
   have hz:(ps.map encQ).length < sizeLine:=by rw [List.length_map,sizeLine_eq];omega
   have e3:(vBM zcS (vFld ["Window"] "full" (vVar 0)) (zab (vCl (zat 2 zbT) (zab (vCl (zat 1 zaR) (zab (vFld ["Window"] "newest" (vVar 0)) a0)) (zab (vFld ["Window"] "keep" (vVar 0)) a0))) a0)) [some (.cel s),some (.int x)] ΩB=some (.ok .non,ΩB.set Ω.length (.lst ((ps ++ [blkP k ns]).map encQ))):=by
    have ar:(zab (vCl (zat 2 zbT) (zab (vCl (zat 1 zaR) (zab (vFld ["Window"] "newest" (vVar 0)) a0)) (zab (vFld ["Window"] "keep" (vVar 0)) a0))) a0) [some (.cel s),some (.int x)] ΩB=some (.ok [encQ (blkP k ns)],ΩB):=zaJ e2 zbF
    unfold vBM
    rw [zaV g1]
    simp only [il,if_true]
    rw [zaV ar]
    have em:(ps ++ [blkP k ns]).map encQ=ps.map encQ ++ [encQ (blkP k ns)]:=by simp
    rw [em]
    generalize ps.map encQ=fl at cl hz
    simp [cl,hz]
   unfold sExp
   rw [ze1 e3]
  ·rw [List.getElem?_set_ne hne,List.getElem?_set_self hsA]
  ·by_cases hj2:j=Ω.length
   ·subst hj2
    rw [List.getElem?_set_self (by simp;omega)] at hc
    cases hc
    exact .inr (zox _ _)
   ·rw [List.getElem?_set_ne (Ne.symm hj2),List.getElem?_set_ne (Ne.symm hj)] at hc
    exact .inl hc
  ·show ΩA.set Ω.length _=_
   have pf:putD ("newest" : Str) (Fd.lst (ns.map A.int)) fsA=fsA:=zhX lkn
   rw [pf]
   exact (ztT hne ho).symm
 have e:=zl0 (i:=0) (f := "full") (c := .lst (ps.map encQ)) (c' := .lst ((ps ++ [blkP k ns]).map encQ)) (fd' := .lst ((ps ++ [blkP k ns]).map encQ)) rfl h' zlz rfl key rfl (.inr (zox _ _)) (fun j d hj => .inl hj)
 rw [zwX] at e
 exact e
end
end M
namespace M
open PySem L2 V2
def ps2 (b k:Int) (ps:List Po) (ns:List Int) (x:Int):List Po:=if (ns.length:Int) + 1=b then ps ++ [blkP k (ns ++ [x])] else ps
def ns2 (b:Int) (ns:List Int) (x:Int):List Int:=if (ns.length:Int) + 1=b then [] else ns ++ [x]
def ps3 (L b k:Int) (ps:List Po) (ns:List Int) (x:Int):List Po:=if L ≤ (((ps2 b k ps ns x).length:Int) - 1) * b + (ns2 b ns x).length then (ps2 b k ps ns x).tail else ps2 b k ps ns x
theorem zxP {Ω:Sto} {s:Nat} {L b k n:Int} {ps:List Po} {ns:List Int} (h:WAt Ω s L b k n ps ns) (hL:1 ≤ L) (hb1:b ≤ 63) (hn:(ns.length:Int) + 1 ≤ b) (hk:1 ≤ k) (hk1:k < 1000000) (hp:ps.length ≤ 900) (x:Int) :
  zdy [.cel s, .int x] Ω=some (.ok .non,Ω.set s (.ins "Window" (wF L b k (n + 1) ((ps3 L b k ps ns x).map encQ) ((ns2 b ns x).map A.int)))):=by
 have hs:=h.lt
 have h':Ω[s]? = some (.ins "Window" (wF L b k n (ps.map encQ) (ns.map A.int))):=h
 show trim Ω (outR (zeP [some (.cel s),some (.int x)] Ω))=_
 have e1:(zjF ["Window"] "many" (vVar 0) (vOp (gAdd false) (vFld ["Window"] "many" (vVar 0)) (cI 1))) [some (.cel s),some (.int x)] Ω=some (.nx,[some (.cel s),some (.int x)],Ω.set s (.ins "Window" (wF L b k (n + 1) (ps.map encQ) (ns.map A.int)))):=by
  have g:=ze0 (ρ:=[some (.cel s),some (.int x)]) (f := "many") rfl h' zq1
  have l3:(vOp (gAdd false) (vFld ["Window"] "many" (vVar 0)) (cI 1)) [some (.cel s),some (.int x)] Ω=some (.ok (.int (n + 1)),Ω):=by
   rw [vOp,zaV g];simp
  unfold zjF
  rw [ze1 l3]
  rw [ze1 (x:=A.cel s) (Ω':=Ω) (by simp)]
  simp only [h']
  rw [if_pos ⟨by simp,by simp [wF]⟩,zvH]
 have o1:(Ω.set s (.ins "Window" (wF L b k (n + 1) (ps.map encQ) (ns.map A.int))))[s]? = some (.ins "Window" (wF L b k (n + 1) (ps.map encQ) (ns.map A.int))):=List.getElem?_set_self hs
 have e2:(sExp (zpD ["Window"] 0 "newest" (vVar 1))) [some (.cel s),some (.int x)] (Ω.set s (.ins "Window" (wF L b k (n + 1) (ps.map encQ) (ns.map A.int))))=some (.nx,[some (.cel s),some (.int x)],Ω.set s (.ins "Window" (wF L b k (n + 1) (ps.map encQ) ((ns ++ [x]).map A.int)))):=by
  have ow:=zrs (cs:=["Window"]) (f := "newest") (i:=0) (ρ:=[some (.cel s),some (.int x)]) (fd := .lst (ns.map A.int)) rfl o1 (by simp) zhR
  have hz:(ns.map A.int).length < sizeLine:=by rw [List.length_map,sizeLine_eq];omega
  have v1:(vVar 1) [some (.cel s),some (.int x)] (Ω.set s (.ins "Window" (wF L b k (n + 1) (ps.map encQ) (ns.map A.int))))=some (.ok (.int x),Ω.set s (.ins "Window" (wF L b k (n + 1) (ps.map encQ) (ns.map A.int)))):=rfl
  have e:(zpD ["Window"] 0 "newest" (vVar 1)) [some (.cel s),some (.int x)] (Ω.set s (.ins "Window" (wF L b k (n + 1) (ps.map encQ) (ns.map A.int))))=some (.ok .non,Ω.set s (.ins "Window" (wF L b k (n + 1) (ps.map encQ) ((ns ++ [x]).map A.int)))):=by
   unfold zpD
   rw [ow]
   simp only [v1]
   rw [if_pos hz,List.set_set,zjz]
   simp
  unfold sExp
  rw [ze1 e]
 have h2:WAt (Ω.set s (.ins "Window" (wF L b k (n + 1) (ps.map encQ) ((ns ++ [x]).map A.int)))) s L b k (n + 1) ps (ns ++ [x]):=List.getElem?_set_self hs
 have ln:(ns ++ [x]).length=ns.length + 1:=by simp
 have e3:(sIf (zaP (vOp gEq (zgK ["Window"] 0 "newest") (vFld ["Window"] "block" (vVar 0))))
   (sSeq (zgU 0 "full" (zgU 0 "newest" (sExp (vBM zcS (vFld ["Window"] "full" (vVar 0)) (zab (vCl (zat 2 zbT) (zab (vCl (zat 1 zaR) (zab (vFld ["Window"] "newest" (vVar 0)) a0)) (zab (vFld ["Window"] "keep" (vVar 0)) a0))) a0)))))
   (zkz ["Window"] 0 "newest" (vLst true a0)))
   sNx) [some (.cel s),some (.int x)] (Ω.set s (.ins "Window" (wF L b k (n + 1) (ps.map encQ) ((ns ++ [x]).map A.int))))=some (.nx,[some (.cel s),some (.int x)],Ω.set s (.ins "Window" (wF L b k (n + 1) ((ps2 b k ps ns x).map encQ) ((ns2 b ns x).map A.int)))):=by
  have g1:=zn6 (ρ:=[some (.cel s),some (.int x)]) (f := "newest") rfl h2 zhR
  have g2:=ze0 (ρ:=[some (.cel s),some (.int x)]) (f := "block") rfl h2 zlU
  have l2:((ns ++ [x]).map A.int).length=ns.length + 1:=by simp
  rw [l2] at g1
  have tt:(zaP (vOp gEq (zgK ["Window"] 0 "newest") (vFld ["Window"] "block" (vVar 0)))) [some (.cel s),some (.int x)] (Ω.set s (.ins "Window" (wF L b k (n + 1) (ps.map encQ) ((ns ++ [x]).map A.int))))=some (.ok (((ns.length + 1:Nat):Int) == b),Ω.set s (.ins "Window" (wF L b k (n + 1) (ps.map encQ) ((ns ++ [x]).map A.int)))):=by
   have e:(vOp gEq (zgK ["Window"] 0 "newest") (vFld ["Window"] "block" (vVar 0))) [some (.cel s),some (.int x)] (Ω.set s (.ins "Window" (wF L b k (n + 1) (ps.map encQ) ((ns ++ [x]).map A.int))))=some (.ok (.bl (((ns.length + 1:Nat):Int) == b)),Ω.set s (.ins "Window" (wF L b k (n + 1) (ps.map encQ) ((ns ++ [x]).map A.int)))):=by
    rw [vOp,zaV g1,zaV g2,zvZ]
   unfold zaP
   rw [zaV e];simp
  by_cases hq:(ns.length:Int) + 1=b
  ·have hb:(((ns.length + 1:Nat):Int) == b)=true:=by simp;omega
   rw [hb] at tt
   have fs:=zvl h2 (by rw [ln];omega) hk hk1 (by omega) x
   rw [List.set_set] at fs
   have o3:(Ω.set s (.ins "Window" (wF L b k (n + 1) ((ps ++ [blkP k (ns ++ [x])]).map encQ) ((ns ++ [x]).map A.int))))[s]? = some (.ins "Window" (wF L b k (n + 1) ((ps ++ [blkP k (ns ++ [x])]).map encQ) ((ns ++ [x]).map A.int))):=List.getElem?_set_self hs
   have ob:objF ["Window"] 0 [some (.cel s),some (.int x)] (Ω.set s (.ins "Window" (wF L b k (n + 1) ((ps ++ [blkP k (ns ++ [x])]).map encQ) ((ns ++ [x]).map A.int))))=some (s,("Window" : Str),wF L b k (n + 1) ((ps ++ [blkP k (ns ++ [x])]).map encQ) ((ns ++ [x]).map A.int)):=by
    simp only [objF,List.getElem?_cons_zero,Option.join_some,o3]
    simp
   have fn:(zkz ["Window"] 0 "newest" (vLst true a0)) [some (.cel s),some (.int x)] (Ω.set s (.ins "Window" (wF L b k (n + 1) ((ps ++ [blkP k (ns ++ [x])]).map encQ) ((ns ++ [x]).map A.int))))=some (.nx,[some (.cel s),some (.int x)],Ω.set s (.ins "Window" (wF L b k (n + 1) ((ps ++ [blkP k (ns ++ [x])]).map encQ) []))):=by
    have cf:∀ n,ClF n (.lst []):=fun n=>by simp [ClF,ClL]
    have lw:(wF L b k (n + 1) ((ps ++ [blkP k (ns ++ [x])]).map encQ) ((ns ++ [x]).map A.int)).length < 1000:=by simp [wF]
    have pw:=zjz (L:=L) (b:=b) (k:=k) (n:=n + 1) (fl:=(ps ++ [blkP k (ns ++ [x])]).map encQ) (nw:=(ns ++ [x]).map A.int) (gl:=[])
    simp only [zkz,ob]
    generalize wF L b k (n + 1) ((ps ++ [blkP k (ns ++ [x])]).map encQ) ((ns ++ [x]).map A.int)=fs1 at lw pw
    simp [mkL,Fd.ofC,cf,lw,pw]
   unfold sIf
   rw [ze1 tt]
   simp only [if_true]
   rw [zap fs,fn]
   simp only [ps2,ns2,if_pos hq,List.map_nil]
  ·have hb:(((ns.length + 1:Nat):Int) == b)=false:=by simp;omega
   rw [hb] at tt
   rw [ifNx tt]
   simp only [ps2,ns2,if_neg hq]
 have h4:WAt (Ω.set s (.ins "Window" (wF L b k (n + 1) ((ps2 b k ps ns x).map encQ) ((ns2 b ns x).map A.int)))) s L b k (n + 1) (ps2 b k ps ns x) (ns2 b ns x):=List.getElem?_set_self hs
 have hp2:(ps2 b k ps ns x).length ≤ 1000:=by
  unfold ps2
  split
  ·simp;omega
  ·omega
 have hn2:((ns2 b ns x).length:Int) ≤ b:=by
  unfold ns2;split
  ·simp;omega
  ·simp;omega
 have dr:=zwo h4 (by omega) (by omega) hp2 (fun hh z=>by
  rw [z] at hh
  simp at hh
  omega)
 have e:zeP [some (.cel s),some (.int x)] Ω=some (.nx,[some (.cel s),some (.int x)],Ω.set s (.ins "Window" (wF L b k (n + 1) ((ps3 L b k ps ns x).map encQ) ((ns2 b ns x).map A.int)))):=by
  unfold zeP
  rw [zap e1,zap e2,zap e3]
  have ex:(if L ≤ (((ps2 b k ps ns x).length:Int) - 1) * b + (ns2 b ns x).length then (Ω.set s (.ins "Window" (wF L b k (n + 1) ((ps2 b k ps ns x).map encQ) ((ns2 b ns x).map A.int)))).set s (.ins "Window" (wF L b k (n + 1) ((ps2 b k ps ns x).tail.map encQ) ((ns2 b ns x).map A.int))) else Ω.set s (.ins "Window" (wF L b k (n + 1) ((ps2 b k ps ns x).map encQ) ((ns2 b ns x).map A.int))))=Ω.set s (.ins "Window" (wF L b k (n + 1) ((ps3 L b k ps ns x).map encQ) ((ns2 b ns x).map A.int))):=by
   unfold ps3
   split
   ·rw [List.set_set]
   ·rfl
  rw [ex] at dr
  have ob:(Ω.set s (.ins "Window" (wF L b k (n + 1) ((ps2 b k ps ns x).map encQ) ((ns2 b ns x).map A.int))))[s]? = _:=h4
  have lk:(wF L b k (n + 1) ((ps2 b k ps ns x).map encQ) ((ns2 b ns x).map A.int)).lookup ("drop_oldest" : Str)=none:=rfl
  generalize Ω.set s (.ins "Window" (wF L b k (n + 1) ((ps2 b k ps ns x).map encQ) ((ns2 b ns x).map A.int)))=Ω4 at dr ob
  generalize wF L b k (n + 1) ((ps2 b k ps ns x).map encQ) ((ns2 b ns x).map A.int)=fs4 at ob lk
  have call:(zcr "drop_oldest" [("Window",zce 1 [] zbc)] (vVar 0) a0) [some (.cel s),some (.int x)] Ω4=some (.ok .non,Ω.set s (.ins "Window" (wF L b k (n + 1) ((ps3 L b k ps ns x).map encQ) ((ns2 b ns x).map A.int)))):=by
   simp [zce,ob,lk,dr,List.lookup]
  unfold sExp
  rw [ze1 call]
 rw [e]
 simp only [zlZ]
 exact zid (by simp)
end M
namespace M
open PySem L2 V2
structure WI (L b:Int) (hist:List Int) (bs:List (List Int)) (ns:List Int):Prop where
 len:∀ B ∈ bs,(B.length:Int)=b
 few:(ns.length:Int) < b
 dr:∃ D,hist=D ++ bs.flatten ++ ns∧(D=[]∨L ≤ (bs.length:Int) * b + ns.length)
 top:((bs.length:Int) - 1) * b + ns.length < L
def bs2 (b:Int) (bs:List (List Int)) (ns:List Int) (x:Int):List (List Int):=if (ns.length:Int) + 1=b then bs ++ [ns ++ [x]] else bs
def bs3 (L b:Int) (bs:List (List Int)) (ns:List Int) (x:Int):List (List Int):=if L ≤ (((bs2 b bs ns x).length:Int) - 1) * b + (ns2 b ns x).length then (bs2 b bs ns x).tail else bs2 b bs ns x
theorem zye (b k:Int) (bs:List (List Int)) (ns:List Int) (x:Int):ps2 b k (bs.map (blkP k)) ns x=(bs2 b bs ns x).map (blkP k):=by
 unfold ps2 bs2
 split <;> simp
theorem zxG (L b k:Int) (bs:List (List Int)) (ns:List Int) (x:Int):ps3 L b k (bs.map (blkP k)) ns x=(bs3 L b bs ns x).map (blkP k):=by
 unfold ps3 bs3
 rw [zye,List.length_map]
 split
 ·rw [List.map_tail]
 ·rfl
theorem ztR {L b:Int} (hL:1 ≤ L) (hb:1 ≤ b):WI L b [] [] []:=⟨fun _ h=>by simp at h,by simp;omega,⟨[],rfl, .inl rfl⟩,by simp;omega⟩
theorem WI.put {L b:Int} {hist:List Int} {bs:List (List Int)} {ns:List Int} (h:WI L b hist bs ns) (hL:1 ≤ L) (hb:1 ≤ b) (x:Int):WI L b (hist ++ [x]) (bs3 L b bs ns x) (ns2 b ns x):=by
 obtain ⟨len,few,⟨D,hD,hd⟩,top⟩:=h
 have em:((bs.length:Int) - 1) * b=(bs.length:Int) * b - b:=by rw [Int.sub_mul];omega
 rw [em] at top
 by_cases hq:(ns.length:Int) + 1=b
 ·have e2:bs2 b bs ns x=bs ++ [ns ++ [x]]:=by simp [bs2,hq]
  have e3:ns2 b ns x=[]:=by simp [ns2,hq]
  have eo:(((bs2 b bs ns x).length:Int) - 1) * b + (ns2 b ns x).length=(bs.length:Int) * b:=by
   rw [e2,e3];simp
  have hflat:hist ++ [x]=D ++ (bs ++ [ns ++ [x]]).flatten ++ []:=by rw [hD];simp
  have lenB:∀ B ∈ bs ++ [ns ++ [x]],(B.length:Int)=b:=fun B hB=>by
   rcases List.mem_append.mp hB with z | z
   ·exact len B z
   ·simp at z;rw [z];simp;omega
  unfold bs3
  rw [eo,e2,e3]
  by_cases hp:L ≤ (bs.length:Int) * b
  ·rw [if_pos hp]
   cases bs with
   | nil =>
    simp at hp
    omega
   | cons B r =>
    refine ⟨fun C hC=>lenB C (by simp at hC ⊢;exact .inr hC),by simp;omega,⟨D ++ B,by rw [hflat];simp, .inr ?_⟩,?_⟩
    ·have:(((B :: r) ++ [ns ++ [x]]).tail.length:Int)=((B :: r).length:Int):=by simp
     rw [this];simp only [List.length_nil];omega
    ·have e4:(((B :: r) ++ [ns ++ [x]]).tail.length:Int) - 1=((B :: r).length:Int) - 1:=by simp
     rw [e4,em];simp only [List.length_nil];omega
  ·rw [if_neg hp]
   refine ⟨lenB,by simp;omega,⟨D,hflat,?_⟩,?_⟩
   ·rcases hd with z | z
    ·exact .inl z
    ·refine .inr ?_
     have:((bs ++ [ns ++ [x]]).length:Int) * b=(bs.length:Int) * b + b:=by simp [Int.add_mul]
     rw [this];simp only [List.length_nil];omega
   ·have:(((bs ++ [ns ++ [x]]).length:Int) - 1) * b=(bs.length:Int) * b:=by simp
    rw [this];simp only [List.length_nil];omega
 ·have e2:bs2 b bs ns x=bs:=by simp [bs2,hq]
  have e3:ns2 b ns x=ns ++ [x]:=by simp [ns2,hq]
  have eo:(((bs2 b bs ns x).length:Int) - 1) * b + (ns2 b ns x).length=(bs.length:Int) * b - b + (ns.length + 1):=by
   rw [e2,e3,em];simp
  have hflat:hist ++ [x]=D ++ bs.flatten ++ (ns ++ [x]):=by rw [hD];simp
  have ln:((ns ++ [x]).length:Int)=(ns.length:Int) + 1:=by simp
  unfold bs3
  rw [eo,e2,e3]
  by_cases hp:L ≤ (bs.length:Int) * b - b + (ns.length + 1)
  ·rw [if_pos hp]
   cases bs with
   | nil =>
    simp at hp
    omega
   | cons B r =>
    have e5:(((B :: r).tail.length:Int)) * b=((B :: r).length:Int) * b - b:=by simp [Int.add_mul]
    refine ⟨fun C hC=>len C (by simp at hC ⊢;exact .inr hC),by rw [ln];omega,⟨D ++ B,by rw [hflat];simp, .inr ?_⟩,?_⟩
    ·rw [e5,ln];omega
    ·rw [Int.sub_mul,e5,ln];omega
  ·rw [if_neg hp]
   refine ⟨len,by rw [ln];omega,⟨D,hflat,?_⟩,?_⟩
   ·rcases hd with z | z
    ·exact .inl z
    ·exact .inr (by rw [ln];omega)
   ·rw [em,ln];omega
theorem zhu {b:Int}:∀ {bs:List (List Int)},(∀ B ∈ bs,(B.length:Int)=b)→((bs.flatten).length:Int)=(bs.length:Int) * b
 | [],_=>by simp
 | B :: r,h=>by
  have ih:=zhu (bs:=r) fun C hC=>h C (by simp [hC])
  have h1:=h B (by simp)
  have:((B :: r).length:Int) * b=(r.length:Int) * b + b:=by simp [Int.add_mul]
  rw [this,List.flatten_cons,List.length_append]
  push_cast
  omega
theorem WI.zvP {L b:Int} {hist:List Int} {bs:List (List Int)} {ns:List Int} (h:WI L b hist bs ns) (hb:1 ≤ b) (hL:L ≤ 40):bs.length ≤ 41:=by
 have t:=h.top
 rcases Nat.lt_or_ge 41 bs.length with z | z
 ·exfalso
  have h1:(41:Int) ≤ (bs.length:Int) - 1:=by omega
  have h2:((bs.length:Int) - 1) * 1 ≤ ((bs.length:Int) - 1) * b:=Int.mul_le_mul_of_nonneg_left hb (by omega)
  omega
 ·exact z
structure Taken (b:Int) (hist:List Int) (bs:List (List Int)) (ns:List Int) (last:Int) (q:Nat) (nl:List Int):Prop where
 nl_eq:nl=ns.drop (ns.length - last.toNat)
 q_eq:(last - nl.length + b - 1) / b=q
 q_le:q ≤ bs.length
 suf:∃ Y,hist=Y ++ ((bs.drop (bs.length - q)).flatten ++ nl)
 many:((bs.drop (bs.length - q)).flatten.length:Int)=q * b
 enough:last ≤ q * b + nl.length
 over:q * b + nl.length ≤ last + b - 1
theorem taken {L b:Int} {hist:List Int} {bs:List (List Int)} {ns:List Int} (h:WI L b hist bs ns) (hb:1 ≤ b) (last:Int) (h1:1 ≤ last) (h2:last ≤ L) (h3:last ≤ hist.length):∃ q nl,Taken b hist bs ns last q nl:=by
 obtain ⟨len,few,⟨D,hD,hd⟩,top⟩:=h
 have fl:=zhu len
 have hh:(hist.length:Int)=D.length + (bs.length:Int) * b + ns.length:=by
  rw [hD,List.length_append,List.length_append];push_cast;omega
 have hT:last ≤ (bs.length:Int) * b + ns.length:=by
  rcases hd with z | z
  ·rw [z] at hh;simp at hh;omega
  ·omega
 by_cases hc:last ≤ ns.length
 ·have el:(ns.drop (ns.length - last.toNat)).length=last.toNat:=by simp;omega
  refine ⟨0,ns.drop (ns.length - last.toNat),rfl,?_,Nat.zero_le _,?_,by simp,by rw [el];simp;omega,by rw [el];simp;omega⟩
  ·rw [el]
   have:last - (last.toNat:Int) + b - 1=b - 1:=by omega
   rw [this]
   exact Int.ediv_eq_zero_of_lt (by omega) (by omega)
  ·refine ⟨D ++ bs.flatten ++ ns.take (ns.length - last.toNat),?_⟩
   rw [hD]
   simp [List.take_append_drop]
 ·have e0:ns.length - last.toNat=0:=by omega
  have en:ns.drop (ns.length - last.toNat)=ns:=by rw [e0];rfl
  obtain ⟨q,hq⟩:=Int.eq_ofNat_of_zero_le (show 0 ≤ (last - ns.length + b - 1) / b from Int.ediv_nonneg (by omega) (by omega))
  have hq':(last - ns.length + b - 1) / b=(q:Int):=hq
  have d1:=Int.mul_ediv_self_le (x:=last - ns.length + b - 1) (k:=b) (by omega)
  have d2:=Int.lt_mul_ediv_self_add (x:=last - ns.length + b - 1) (k:=b) (by omega)
  rw [hq',Int.mul_comm] at d1 d2
  have hle:q ≤ bs.length:=by
   rcases Nat.lt_or_ge bs.length q with z | z
   ·exfalso
    have h4:((bs.length:Int) + 1) * b ≤ (q:Int) * b:=Int.mul_le_mul_of_nonneg_right (by omega) (by omega)
    rw [Int.add_mul] at h4
    omega
   ·exact z
  have lend:(bs.drop (bs.length - q)).length=q:=by simp;omega
  have fl2:=zhu (bs:=bs.drop (bs.length - q)) fun B hB=>len B (List.mem_of_mem_drop hB)
  rw [lend] at fl2
  refine ⟨q,ns,en.symm,hq',hle,?_,fl2,by omega,by omega⟩
  refine ⟨D ++ (bs.take (bs.length - q)).flatten,?_⟩
  rw [hD]
  conv=>lhs;rw [← List.take_append_drop (bs.length - q) bs,List.flatten_append]
  simp
end M
namespace M
open PySem L2 V2
section
variable {Ω:Sto} {s:Nat} {L b k n:Int} {ps:List Po} {ns:List Int}
def zeB (L n:Int):A→Option Int
 | .non=>some (min L n)
 | .int v=>some v
 | _=>none
theorem zg4 (h:WAt Ω s L b k n ps ns) (a:A) (v:Int) (ha:zeB L n a=some v):zao [.cel s,a] Ω=if v < 1∨min L n < v then some (.exc ⟨"NoPlace",[]⟩,Ω) else some (.ok (.int v),Ω):=by
 have h':Ω[s]? = some (.ins "Window" (wF L b k n (ps.map encQ) (ns.map A.int))):=h
 show trim Ω (outR (zc0 [some (.cel s),some a,none] Ω))=_
 have g1:=ze0 (ρ:=[some (.cel s),some a,none]) (f := "reach") rfl h' zoA
 have g2:=ze0 (ρ:=[some (.cel s),some a,none]) (f := "many") rfl h' zq1
 have e1:(sAsg (vCl zhF (zab (vFld ["Window"] "reach" (vVar 0)) (zab (vFld ["Window"] "many" (vVar 0)) a0))) (gN 2)) [some (.cel s),some a,none] Ω=some (.nx,[some (.cel s),some a,some (.int (min L n))],Ω):=by
  have a1:(zab (vFld ["Window"] "reach" (vVar 0)) (zab (vFld ["Window"] "many" (vVar 0)) a0)) [some (.cel s),some a,none] Ω=some (.ok [.int L, .int n],Ω):=zaJ g1 (zaJ g2 zbF)
  have e:(vCl zhF (zab (vFld ["Window"] "reach" (vVar 0)) (zab (vFld ["Window"] "many" (vVar 0)) a0))) [some (.cel s),some a,none] Ω=some (.ok (.int (min L n)),Ω):=by
   rw [vCl,zaV a1];simp
  unfold sAsg
  rw [ze1 e]
  simp
 have e2:(sIf (zaP (vOp (gIsN false) (vVar 1) cN)) (sAsg (vVar 2) (gN 1)) sNx) [some (.cel s),some a,some (.int (min L n))] Ω=some (.nx,[some (.cel s),some (.int v),some (.int (min L n))],Ω):=by
  cases a with
  | non=>simp [zeB] at ha;subst ha;simp [zhm]
  | int i=>simp [zeB] at ha;subst ha;simp [zhm]
  | _=>simp [zeB] at ha
 unfold zc0
 rw [zap e1,zap e2]
 have h1:(1:Nat) ≤ sizeLine:=by decide
 generalize min L n=m
 by_cases hc:v < 1∨m < v
 ·rw [if_pos hc]
  have e3:(sIf (vOrT (zaP (vOp gLt (vVar 1) (cI 1))) (zaP (vOp gGt (vVar 1) (vVar 2)))) (zgY "NoPlace" (zab (cS "last goes from 1 to the length and to how many were put in") a0)) sNx) [some (.cel s),some (.int v),some (.int m)] Ω=some (.exc ⟨"NoPlace",[]⟩,[some (.cel s),some (.int v),some (.int m)],Ω):=by
   by_cases h3:v < 1
   ·simp [h3,h1]
   ·have h4:m < v:=hc.resolve_left h3
    simp [h3,h4,h1]
  have:sSeq (sIf (vOrT (zaP (vOp gLt (vVar 1) (cI 1))) (zaP (vOp gGt (vVar 1) (vVar 2)))) (zgY "NoPlace" (zab (cS "last goes from 1 to the length and to how many were put in") a0)) sNx) (sRet (vVar 1)) [some (.cel s),some (.int v),some (.int m)] Ω=some (.exc ⟨"NoPlace",[]⟩,[some (.cel s),some (.int v),some (.int m)],Ω):=by
   unfold sSeq;rw [e3]
  rw [this]
  simp only [outR,trim]
  split <;> rfl
 ·rw [if_neg hc]
  have h3:¬ v < 1:=fun z=>hc (.inl z)
  have h4:¬ m < v:=fun z=>hc (.inr z)
  rw [zap (ρ1:=[some (.cel s),some (.int v),some (.int m)]) (Ω':=Ω) (by simp [h3,h4])]
  simp
theorem zwT (ds:List A) (v:Int) (h1:1 ≤ v):cutA ds (some (-v)) none=ds.drop (ds.length - v.toNat):=by
 unfold cutA
 have e:HT.sIx ds.length 0 (some (-v))=ds.length - v.toNat:=by
  show (if -v < 0 then (-v + (ds.length:Int)).toNat else _)=_
  rw [if_pos (by omega)]
  omega
 rw [HT.zoV,e,List.take_of_length_le (by simp)]
def prt (k:Int) (bs:List (List Int)) (q:Nat) (nl:List Int):List Po:=(bs.drop (bs.length - q)).map (blkP k) ++ [ofPo (unit nl)]
theorem zwC {hist:List Int} {bs:List (List Int)} {q:Nat} {nl:List Int} {last:Int} (h:WAt Ω s L b k n (bs.map (blkP k)) ns) (hb:1 ≤ b) (hb1:b ≤ 63) (hf:(ns.length:Int) < b) (hbs:bs.length ≤ 1000) (h1:1 ≤ last) (T:Taken b hist bs ns last q nl) :
  zaC [.cel s, .int last] Ω=some (.ok (.lst ((prt k bs q nl).map encQ)),Ω):=by
 have hs:=h.lt
 have h':Ω[s]? = some (.ins "Window" (wF L b k n ((bs.map (blkP k)).map encQ) (ns.map A.int))):=h
 show trim Ω (outR (zdw [some (.cel s),some (.int last),none,none] Ω))=_
 have nle:nl.length ≤ ns.length:=by rw [T.nl_eq];simp
 have e1:zgU 0 "newest" (sAsg (vSl false (vFld ["Window"] "newest" (vVar 0)) (ziw (vNeg (vVar 1))) sl0) (gN 2)) [some (.cel s),some (.int last),none,none] Ω=some (.nx,[some (.cel s),some (.int last),some (.lst (nl.map A.int)),none],Ω.set s (.ins "Window" (putD "newest" (.lst (ns.map A.int)) (wF L b k n ((bs.map (blkP k)).map encQ) (ns.map A.int))))):=by
  refine zl0 (c := .lst (ns.map A.int)) (c' := .lst (ns.map A.int)) rfl h' zhR rfl ?_ rfl (.inl rfl) (fun j d hj=>?_)
  ·have ho:=zms (cls := "Window") (f := "newest") (fs:=wF L b k n ((bs.map (blkP k)).map encQ) (ns.map A.int)) (c := .lst (ns.map A.int)) hs
   have hn:=zmY (Ω:=Ω) (s:=s) (cls := "Window") (f := "newest") (fs:=wF L b k n ((bs.map (blkP k)).map encQ) (ns.map A.int)) (c := .lst (ns.map A.int))
   generalize lent Ω s "Window" "newest" (wF L b k n ((bs.map (blkP k)).map encQ) (ns.map A.int)) (.lst (ns.map A.int))=Ω1 at *
   have g:=ze0 (ρ:=[some (.cel s),some (.int last),none,none]) (f := "newest") (a := .cel Ω.length) rfl ho rfl
   have li:zaD Ω1 (.cel Ω.length)=some (ns.map A.int):=zaH hn
   have ec:cutA (ns.map A.int) (some (-last)) none=nl.map A.int:=by
    rw [zwT _ _ h1,List.length_map,← List.map_drop,← T.nl_eq]
   have e:(vSl false (vFld ["Window"] "newest" (vVar 0)) (ziw (vNeg (vVar 1))) sl0) [some (.cel s),some (.int last),none,none] Ω1=some (.ok (.lst (nl.map A.int)),Ω1):=by
    rw [vSl,zaV g]
    simp [li,ec]
   unfold sAsg
   rw [ze1 e]
   simp
  ·match j with
   | 0=>exact .inl hj
   | 1=>exact .inl hj
   | 2 =>
    simp at hj
    subst hj
    exact .inr (by simp only [Cl];exact zws _ _)
   | 3=>simp at hj
   | j + 4=>simp at hj
 rw [zjz] at e1
 have eS:Ω.set s (.ins "Window" (wF L b k n ((bs.map (blkP k)).map encQ) (ns.map A.int)))=Ω:=by
  apply List.ext_getElem?
  intro j
  by_cases hj:s=j
  ·subst hj
   rw [List.getElem?_set_self hs,h']
  ·rw [List.getElem?_set_ne hj]
 rw [eS] at e1
 have dv:CDiv (last - nl.length + b - 1) b:=cdiv (by omega) (by omega)
 have e2:(sAsg (vOp (gDiv) (vOp (gSub) (vOp (gAdd false) (vOp (gSub) (vVar 1) (vCl gLen (zab (vVar 2) a0))) (vFld ["Window"] "block" (vVar 0))) (cI 1)) (vFld ["Window"] "block" (vVar 0))) (gN 3)) [some (.cel s),some (.int last),some (.lst (nl.map A.int)),none] Ω=some (.nx,[some (.cel s),some (.int last),some (.lst (nl.map A.int)),some (.int q)],Ω):=by
  have g:=ze0 (ρ:=[some (.cel s),some (.int last),some (.lst (nl.map A.int)),none]) (f := "block") rfl h' zlU
  have si:zbl Ω (.lst (nl.map A.int))=some (nl.map A.int):=rfl
  have a1:(vOp (gSub) (vVar 1) (vCl gLen (zab (vVar 2) a0))) [some (.cel s),some (.int last),some (.lst (nl.map A.int)),none] Ω=some (.ok (.int (last - nl.length)),Ω):=by
   have hl:(nl.map A.int).length=nl.length:=by simp
   generalize nl.map A.int=us at si hl
   simp [si,hl]
  have a2:(vOp (gAdd false) (vOp (gSub) (vVar 1) (vCl gLen (zab (vVar 2) a0))) (vFld ["Window"] "block" (vVar 0))) [some (.cel s),some (.int last),some (.lst (nl.map A.int)),none] Ω=some (.ok (.int (last - nl.length + b)),Ω):=by
   rw [vOp,zaV a1,zaV g];simp
  have a3:(vOp (gSub) (vOp (gAdd false) (vOp (gSub) (vVar 1) (vCl gLen (zab (vVar 2) a0))) (vFld ["Window"] "block" (vVar 0))) (cI 1)) [some (.cel s),some (.int last),some (.lst (nl.map A.int)),none] Ω=some (.ok (.int (last - nl.length + b - 1)),Ω):=by
   rw [vOp,zaV a2];simp
  have a4:(vOp (gDiv) (vOp (gSub) (vOp (gAdd false) (vOp (gSub) (vVar 1) (vCl gLen (zab (vVar 2) a0))) (vFld ["Window"] "block" (vVar 0))) (cI 1)) (vFld ["Window"] "block" (vVar 0))) [some (.cel s),some (.int last),some (.lst (nl.map A.int)),none] Ω=some (.ok (.int q),Ω):=by
   rw [vOp,zaV a3,zaV g,← T.q_eq];simp [dv]
  unfold sAsg
  rw [ze1 a4]
  generalize nl.map A.int=us
  simp
 have e3:zjW 0 "full" (vOp (gAdd false) (vSl false (vFld ["Window"] "full" (vVar 0)) (ziw (vOp (gSub) (vCl gLen (zab (vFld ["Window"] "full" (vVar 0)) a0)) (vVar 3))) sl0) (vLst false (zab (vCl (zat 1 zaR) (zab (vVar 2) a0)) a0))) [some (.cel s),some (.int last),some (.lst (nl.map A.int)),some (.int q)] Ω=some (.ok (.lst ((prt k bs q nl).map encQ)),Ω):=by
  refine zs5 (c := .lst ((bs.map (blkP k)).map encQ)) rfl h' zlz rfl ?_ (by simp only [Cl];exact zox _ _)
  have ho:=zms (cls := "Window") (f := "full") (fs:=wF L b k n ((bs.map (blkP k)).map encQ) (ns.map A.int)) (c := .lst ((bs.map (blkP k)).map encQ)) hs
  have hn:=zmY (Ω:=Ω) (s:=s) (cls := "Window") (f := "full") (fs:=wF L b k n ((bs.map (blkP k)).map encQ) (ns.map A.int)) (c := .lst ((bs.map (blkP k)).map encQ))
  generalize lent Ω s "Window" "full" (wF L b k n ((bs.map (blkP k)).map encQ) (ns.map A.int)) (.lst ((bs.map (blkP k)).map encQ))=Ω1 at *
  generalize hρ:([some (.cel s),some (.int last),some (.lst (nl.map A.int)),some (.int q)] : Ev)=ρ
  have r0:ρ[0]? = some (some (.cel s)):=by rw [← hρ];rfl
  have v2:(vVar 2) ρ Ω1=some (.ok (.lst (nl.map A.int)),Ω1):=by rw [← hρ];rfl
  have v3:(vVar 3) ρ Ω1=some (.ok (.int q),Ω1):=by rw [← hρ];rfl
  have g:=ze0 (ρ:=ρ) (f := "full") (a := .cel Ω.length) r0 ho rfl
  have li:zaD Ω1 (.cel Ω.length)=some ((bs.map (blkP k)).map encQ):=zaH hn
  have si:zbl Ω1 (.cel Ω.length)=some ((bs.map (blkP k)).map encQ):=li
  have ll:((bs.map (blkP k)).map encQ).length=bs.length:=by simp
  have a1:(vCl gLen (zab (vFld ["Window"] "full" (vVar 0)) a0)) ρ Ω1=some (.ok (.int bs.length),Ω1):=by
   have c1:(zab (vFld ["Window"] "full" (vVar 0)) a0) ρ Ω1=some (.ok [.cel Ω.length],Ω1):=zaJ g zbF
   rw [vCl,zaV c1]
   simp only [gLen,si,ll]
  have a2:(vOp (gSub) (vCl gLen (zab (vFld ["Window"] "full" (vVar 0)) a0)) (vVar 3)) ρ Ω1=some (.ok (.int ((bs.length - q:Nat):Int)),Ω1):=by
   have hq:=T.q_le
   have:(bs.length:Int) - q=((bs.length - q:Nat):Int):=by omega
   rw [vOp,zaV a1,zaV v3,← this];simp
  have a3:(vSl false (vFld ["Window"] "full" (vVar 0)) (ziw (vOp (gSub) (vCl gLen (zab (vFld ["Window"] "full" (vVar 0)) a0)) (vVar 3))) sl0) ρ Ω1=some (.ok (.lst (((bs.drop (bs.length - q)).map (blkP k)).map encQ)),Ω1):=by
   have ec:=zm4 ((bs.map (blkP k)).map encQ) (bs.length - q) (by rw [ll];omega)
   rw [← List.map_drop,← List.map_drop] at ec
   have pt:(ziw (vOp (gSub) (vCl gLen (zab (vFld ["Window"] "full" (vVar 0)) a0)) (vVar 3))) ρ Ω1=some (.ok (some ((bs.length - q:Nat):Int)),Ω1):=by
    rw [ziw,zaV a2];rfl
   have s0:sl0 ρ Ω1=some (.ok none,Ω1):=rfl
   rw [vSl,zaV g,zaV pt,zaV s0]
   simp only [gSl,li,ec]
   rfl
  have po:=zkU nl (by omega) (.lst (nl.map A.int)) Ω1 (fun _=>rfl)
  have a4:(vLst false (zab (vCl (zat 1 zaR) (zab (vVar 2) a0)) a0)) ρ Ω1=some (.ok (.lst [encQ (ofPo (unit nl))]),Ω1):=by
   have c1:(zab (vVar 2) a0) ρ Ω1=some (.ok [.lst (nl.map A.int)],Ω1):=zaJ v2 zbF
   have c2:(vCl (zat 1 zaR) (zab (vVar 2) a0)) ρ Ω1=some (.ok (encQ (ofPo (unit nl))),Ω1):=by
    rw [vCl,zaV c1];simp [zat,po]
   exact zyy (zaJ c2 zbF) (by simp)
  have:=zqX a3 a4 (by simp;omega)
  have em:(prt k bs q nl).map encQ=((bs.drop (bs.length - q)).map (blkP k)).map encQ ++ [encQ (ofPo (unit nl))]:=by simp [prt]
  rw [em]
  exact this
 have e:zdw [some (.cel s),some (.int last),none,none] Ω=some (.ret (.lst ((prt k bs q nl).map encQ)),[some (.cel s),some (.int last),some (.lst (nl.map A.int)),some (.int q)],Ω):=by
  unfold zdw
  rw [zap e1,zap e2]
  exact retE e3
 rw [e]
 simp only [zd5]
 exact ze3
theorem zva {p q:Po} (h:encQ p=encQ q):p.s=q.s∧p.l=q.l:=by
 simp [encQ,encP] at h
 exact ⟨h.1,h.2.1⟩
theorem at_s (p:Po) (Ω:Sto):gIx (encQ p) (.int 0) Ω=some (.ok (.int p.s),Ω):=by simp [encQ,encP]
theorem at_l (p:Po) (Ω:Sto):gIx (encQ p) (.int 1) Ω=some (.ok (.int p.l),Ω):=by simp [encQ,encP]
def zef (qs:List Po):Int:=(qs.map (·.s)).sum
def zi6 (qs:List Po):Int:=(qs.map (·.l)).sum
theorem zoM (qs:List Po) (hz:qs.length ≤ 100000) (last:Int) (Ω:Sto):zb9 [.lst (qs.map encQ), .int last] Ω=some (.ok (.int (zef qs - last)),Ω):=by
 have q:zjV [some (.lst (qs.map encQ)),some (.int last)] Ω=some (.ok (.lst (qs.map fun p=>A.int p.s)),Ω) :=
  zn3 (n:=1) (js:=[]) (fi:=vSeq (vVar 0)) (g:=gN 0) (ρ:=[some (.lst (qs.map encQ)),some (.int last)]) (Ω:=Ω) (Ω0:=Ω) (S:=srcOf (.lst (qs.map encQ)) (qs.map encQ)) qs encQ (fun p=>A.int p.s) (fun ρ=>∃ y,ρ=[y]) (fun x y e=>by rw [(zva e).1])
   (by simp) (fun ys=>by simp [srcOf]) ⟨none,by simp [lcEv]⟩ rfl (by omega) (fun p hp ρ hP ys=>by
    obtain ⟨y,rfl⟩:=hP
    have e:=at_s p (Ω ++ [.lst ys])
    generalize encQ p=P at e
    refine ⟨[some P],⟨_,rfl⟩,by simp,?_⟩
    rw [vOp,zaV (x:=P) (Ω':=Ω ++ [.lst ys]) (by simp),zaV (x:=A.int 0) (Ω':=Ω ++ [.lst ys]) (by simp)]
    exact e) (fun x _=>by simp only [Cl])
 have io:intsOf (qs.map fun p=>A.int p.s)=some (qs.map (·.s)):=by
  have:=zkO (qs.map (·.s))
  rw [List.map_map] at this
  exact this
 show trim Ω (outR (ziT [some (.lst (qs.map encQ)),some (.int last)] Ω))=_
 have e:ziT [some (.lst (qs.map encQ)),some (.int last)] Ω=some (.ret (.int (zef qs - last)),[some (.lst (qs.map encQ)),some (.int last)],Ω):=by
  have li:zaD Ω (.lst (qs.map fun p=>A.int p.s))=some (qs.map fun p=>A.int p.s):=rfl
  unfold ziT zef
  generalize (qs.map fun p=>A.int p.s)=us at q li io
  generalize qs.map encQ=vs at q
  simp [q,li,io]
 rw [e]
 simp only [zd5]
 exact ze3
end
end M
namespace M
open PySem L2 V2
def zca (qs:List Po):List Rn:=(qs.map fun p=>midR p.s p.es).flatten
def Gds:List (List Int)→List Po→Prop
 | [],[]=>True
 | B :: bs,p :: ps=>(Gd (unit B) p∧∀ e ∈ p.es,e.1 ∈ B)∧Gds bs ps
 | _,_=>False
theorem zqs (R S:List Rn):whole (R ++ S)=whole R + whole S:=by simp [whole]
theorem zlE (a b:List Int):unit (a ++ b)=unit a ++ unit b:=by simp [unit]
theorem zo5 (R S:List Rn) (x:Int) (also:Bool):cntR (R ++ S) x also=cntR R x also + cntR S x also:=by
 unfold cntR
 cases also
 ·exact zsA R S x
 ·exact zrD R S x
theorem zdh (p:Po) (ps:List Po):zca (p :: ps)=midR p.s p.es ++ zca ps:=by simp [zca]
theorem zkR (p:Po) (ps:List Po):zi6 (p :: ps)=p.l + zi6 ps:=by simp [zi6]
theorem zpK (p:Po) (ps:List Po):zef (p :: ps)=p.s + zef ps:=by simp [zef]
theorem zlQ (x:Int) (also:Bool):∀ {bs:List (List Int)} {ps:List Po},Gds bs ps→cntR (zca ps) x also - zi6 ps ≤ cntR (unit bs.flatten) x also∧cntR (unit bs.flatten) x also ≤ cntR (zca ps) x also + zi6 ps
 | [],[],_=>by cases also <;> simp [zca,zi6,cntR,unit,und,upt]
 | B :: bs,p :: ps,h=>by
  obtain ⟨a,b⟩:=zlQ x also h.2
  obtain ⟨c,d⟩:=zuB h.1.1 x also
  rw [List.flatten_cons,zlE,zo5,zdh,zo5,zkR]
  omega
theorem zm6:∀ {bs:List (List Int)} {ps:List Po},Gds bs ps→whole (zca ps)=zef ps∧zef ps=bs.flatten.length∧0 ≤ zi6 ps
 | [],[],_=>by simp [zca,zi6,zef,whole]
 | B :: bs,p :: ps,h=>by
  obtain ⟨a,b,c⟩:=zm6 h.2
  have e:=zsW h.1.1
  have e2:=h.1.1.sz
  have e3:=h.1.1.gf.l0
  rw [ze6] at e2
  rw [List.flatten_cons,List.length_append,zdh,zqs,zkR,zpK]
  push_cast
  omega
theorem zqD:∀ {bs:List (List Int)} {ps:List Po},Gds bs ps→∀ n ∈ (zca ps).map (·.1),n ∈ bs.flatten
 | [],[],_,n,hn=>by simp [zca] at hn
 | B :: bs,p :: ps,h,n,hn=>by
  rw [zdh,List.map_append] at hn
  rw [List.flatten_cons]
  rcases List.mem_append.mp hn with z | z
  ·have e:=zrL p.s p.es p.es 0
   have z':n ∈ (zdY p.s p.es 0 p.es).map (·.1):=z
   rw [e] at z'
   obtain ⟨f,hf,rfl⟩:=List.mem_map.mp z'
   exact List.mem_append_left _ (h.1.2 f hf)
  ·exact List.mem_append_right _ (zqD h.2 n z)
theorem zrH:∀ {bs:List (List Int)} {ps:List Po} {B:List Int} {p:Po},Gds bs ps→Gd (unit B) p→(∀ e ∈ p.es,e.1 ∈ B)→Gds (bs ++ [B]) (ps ++ [p])
 | [],[],_,_,_,h1,h2=>⟨⟨h1,h2⟩,trivial⟩
 | _ :: _,_ :: _,_,_,h,h1,h2=>⟨h.1,zrH h.2 h1 h2⟩
theorem zvc (ns:List Int):∀ e ∈ (ofPo (unit ns)).es,e.1 ∈ ns:=fun e he=>by
 have he':e ∈ ofE 0 (pkd (unit ns)):=he
 obtain ⟨r,hr,er⟩:=List.mem_map.mp (zq9 _ _ e he')
 obtain ⟨as,bs,e1⟩:=List.append_of_mem hr
 have:=(zsf e1).2.2
 rw [← er]
 simpa [unit] using this
theorem zr4 {k:Int} (hk:1 ≤ k):∀ (bs:List (List Int)),Gds bs (bs.map (blkP k))
 | []=>trivial
 | B :: bs=>⟨⟨(zt1 (zfr B)).thin k hk,fun e he=>zvc B e ((zl1 _ _).subset he)⟩,zr4 hk bs⟩
theorem zv0 {k:Int} (hk:1 ≤ k) (bs:List (List Int)) (q:Nat) (nl:List Int):Gds (bs.drop (bs.length - q) ++ [nl]) (prt k bs q nl) :=
 zrH (zr4 hk _) (zt1 (zfr nl)) (zvc nl)
theorem zh9:∀ (ps:List Po),(zca ps).length=(ps.map fun p=>p.es.length).sum
 | []=>rfl
 | p :: ps=>by
  rw [zdh,List.length_append,zh9 ps]
  show (zdY p.s p.es 0 p.es).length + _=_
  rw [zqC]
  simp
theorem zu9 (ns:List Int):(ofPo (unit ns)).es.length ≤ ns.length:=by
 have:=zoi (pkd (unit ns)) 0 fun r hr=>znU (zfr ns) hr
 rw [zi0,ze6] at this
 show (ofE 0 (pkd (unit ns))).length ≤ _
 omega
theorem zvE {k:Nat} (hk:1 ≤ k) (ns:List Int):(blkP k ns).es.length ≤ ns.length∧(blkP k ns).es.length ≤ 2 * k:=by
 have g:=zt1 (zfr ns)
 have t:=zt5 g.gf k hk
 have o:=zu9 ns
 have l:=(zl1 ((ofPo (unit ns)).l + (ofPo (unit ns)).s / (k:Int)) (ofPo (unit ns)).es).length_le
 exact ⟨Nat.le_trans l o,t⟩
theorem zoB {k:Nat} (hk:1 ≤ k) (b:Nat):∀ (bs:List (List Int)),(∀ B ∈ bs,B.length=b)→((bs.map (blkP k)).map fun p=>p.es.length).sum ≤ bs.length * b∧((bs.map (blkP k)).map fun p=>p.es.length).sum ≤ bs.length * (2 * k)
 | [],_=>by simp
 | B :: bs,h=>by
  obtain ⟨a,c⟩:=zoB hk b bs fun C hC=>h C (by simp [hC])
  obtain ⟨d,e⟩:=zvE hk B
  have hB:=h B (by simp)
  simp only [List.map_cons,List.sum_cons,List.length_cons,Nat.add_mul,Nat.one_mul]
  omega
theorem zvS {k:Int} {L b:Int} {hist:List Int} {bs:List (List Int)} {ns nl:List Int} {q:Nat} {last:Int} (hk:1 ≤ k) (hk1:k ≤ 12) (h:WI L b hist bs ns) (T:Taken b hist bs ns last q nl) (hb:1 ≤ b) (hb1:b ≤ 40) (hl:last ≤ 40):(zca (prt k bs q nl)).length ≤ 63:=by
 obtain ⟨k',rfl⟩:=Int.eq_ofNat_of_zero_le (show 0 ≤ k by omega)
 obtain ⟨b',rfl⟩:=Int.eq_ofNat_of_zero_le (show 0 ≤ b by omega)
 have hd:(bs.drop (bs.length - q)).length=q:=by have:=T.q_le;simp;omega
 obtain ⟨l1,l2⟩:=zoB (k:=k') (by omega) b' (bs.drop (bs.length - q)) fun B hB=>by
  have:=h.len B (List.mem_of_mem_drop hB);omega
 rw [hd] at l1 l2
 have ol:=zu9 nl
 have e:(zca (prt (k':Int) bs q nl)).length=(((bs.drop (bs.length - q)).map (blkP k')).map fun p=>p.es.length).sum + (ofPo (unit nl)).es.length:=by
  rw [zh9];simp [prt]
 rw [e]
 have ov:=T.over
 have ov':q * b' + nl.length ≤ last.toNat + b' - 1:=by
  have:((q * b':Nat):Int)=(q:Int) * (b':Int):=by push_cast;rfl
  omega
 have nf:nl.length < b':=by
  have:=h.few
  have:nl.length ≤ ns.length:=by rw [T.nl_eq];simp
  omega
 have h12:q * (2 * k') ≤ q * 24:=Nat.mul_le_mul_left _ (by omega)
 by_cases c:b' ≤ 24
 ·omega
 ·have q2:q ≤ 2:=by
   rcases Nat.lt_or_ge 2 q with z | z
   ·exfalso
    have:3 * b' ≤ q * b':=Nat.mul_le_mul_right _ z
    omega
   ·exact z
  rcases (show q=0∨q=1∨q=2 by omega) with rfl | rfl | rfl <;> omega
theorem zop:∀ (xs:List Int) (n:Int),und (unit xs) n=((xs.filter fun x=>decide (x < n)).length:Int)
 | [],n=>by simp [unit,und]
 | x :: xs,n=>by
  have ih:=zop xs n
  have e:und (unit (x :: xs)) n=(if x < n then 1 else 0) + und (unit xs) n:=by simp [unit,und]
  rw [e,ih,List.filter_cons]
  by_cases c:x < n <;> simp [c] <;> omega
theorem znC:∀ (xs:List Int) (n:Int),upt (unit xs) n=((xs.filter fun x=>decide (x ≤ n)).length:Int)
 | [],n=>by simp [unit,upt]
 | x :: xs,n=>by
  have ih:=znC xs n
  have e:upt (unit (x :: xs)) n=(if x ≤ n then 1 else 0) + upt (unit xs) n:=by simp [unit,upt]
  rw [e,ih,List.filter_cons]
  by_cases c:x ≤ n <;> simp [c] <;> omega
def offW (k:Int) (bs:List (List Int)) (q:Nat) (nl:List Int) (last:Int):Int:=zef (prt k bs q nl) - last + zi6 (prt k bs q nl)
theorem zx0 {k:Int} {L b:Int} {hist:List Int} {bs:List (List Int)} {ns nl:List Int} {q:Nat} {last:Int} (hk:1 ≤ k) (T:Taken b hist bs ns last q nl) (h1:1 ≤ last) (p:Int) (hp:1 ≤ p) (hp2:p ≤ last) :
  0 ≤ offW k bs q nl last∧1 ≤ p + (zef (prt k bs q nl) - last) / 2∧∃ n,na (pkd (zca (prt k bs q nl))) 0 (p + (zef (prt k bs q nl) - last) / 2)=some n∧n ∈ hist ∧
   ((((hist.drop (hist.length - last.toNat)).filter fun x=>decide (x < n)).length:Int) < p + offW k bs q nl last)∧p - offW k bs q nl last ≤ (((hist.drop (hist.length - last.toNat)).filter fun x=>decide (x ≤ n)).length:Int):=by
 have g:=zv0 hk bs q nl
 obtain ⟨w1,w2,w3⟩:=zm6 g
 have fe:(bs.drop (bs.length - q) ++ [nl]).flatten=(bs.drop (bs.length - q)).flatten ++ nl:=by simp
 rw [fe] at w2
 have hm:=T.many
 have he:=T.enough
 rw [List.length_append] at w2
 push_cast at w2
 have hS:last ≤ zef (prt k bs q nl):=by omega
 unfold offW
 obtain ⟨n,n1,n2,n3,n4⟩:=zzL (zca (prt k bs q nl)) (p + (zef (prt k bs q nl) - last) / 2) (by omega) (by rw [w1];omega)
 refine ⟨by omega,by omega,n,n1,?_,?_⟩
 ·obtain ⟨Y,hY⟩:=T.suf
  rw [hY]
  have:=zqD g n n4
  rw [fe] at this
  exact List.mem_append_right _ this
 ·obtain ⟨Y,hY⟩:=T.suf
  generalize hK:(bs.drop (bs.length - q)).flatten ++ nl=K at hY fe
  have hKl:(K.length:Int)=zef (prt k bs q nl):=by rw [← hK,List.length_append];push_cast;omega
  have a:=(zlQ n false g).2
  have c:=(zlQ n true g).1
  rw [fe] at a c
  simp only [cntR,Bool.false_eq_true,if_false,if_true] at a c
  have hdrop:hist.drop (hist.length - last.toNat)=K.drop (K.length - last.toNat):=by
   rw [hY,List.length_append,List.drop_append]
   have:Y.drop (Y.length + K.length - last.toNat)=[]:=List.drop_of_length_le (by omega)
   rw [this,List.nil_append]
   congr 1
   omega
  rw [hdrop,← zop,← znC]
  have eK:K=K.take (K.length - last.toNat) ++ K.drop (K.length - last.toNat):=(List.take_append_drop _ _).symm
  have u1:und (unit K) n=und (unit (K.take (K.length - last.toNat))) n + und (unit (K.drop (K.length - last.toNat))) n:=by
   conv=>lhs;rw [eK]
   rw [zlE,zsA]
  have u2:upt (unit K) n=upt (unit (K.take (K.length - last.toNat))) n + upt (unit (K.drop (K.length - last.toNat))) n:=by
   conv=>lhs;rw [eK]
   rw [zlE,zrD]
  have v1:0 ≤ und (unit (K.take (K.length - last.toNat))) n:=by rw [zop];omega
  have v2:upt (unit (K.take (K.length - last.toNat))) n ≤ zef (prt k bs q nl) - last:=by
   rw [znC]
   have:=List.length_filter_le (fun x=>decide (x ≤ n)) (K.take (K.length - last.toNat))
   have l:(K.take (K.length - last.toNat)).length=K.length - last.toNat:=by simp
   omega
  generalize und (unit (K.drop (K.length - last.toNat))) n=x1 at *
  generalize upt (unit (K.drop (K.length - last.toNat))) n=x2 at *
  constructor <;> omega
end M
namespace M
open PySem L2 V2
theorem zeu {nm:Str} {i m:Nat} {das:List A} {F:List A→Mo A} {args:Ev→Mo (List A)} {as:List A} {ρ:Ev} {Ω:Sto} {s:Nat} {fs:List (Str × Fd)} (h0:ρ[i]? = some (some (.cel s))) (ho:Ω[s]? = some (.ins "Window" fs)) (hl:fs.lookup nm=none) (ha:args ρ Ω=some (.ok as,Ω)) (hn:as.length + 1 + das.length=m) :
  (zcr nm [("Window",zce m das F)] (vVar i) args) ρ Ω=F (.cel s :: (as ++ das)) Ω:=by
 have e:(vVar i) ρ Ω=some (.ok (.cel s),Ω):=by simp [h0]
 have hn':(A.cel s :: as).length + das.length=m:=by simp;omega
 unfold zcr
 rw [zaV e]
 simp only [zxe,ho,List.lookup,hl,beq_self_eq_true,zaV ha,zce,hn',if_true,List.cons_append]
theorem zeL {f:Ev→Mo A} {j:Nat} {ρ:Ev} {Ω Ω':Sto} {a:A} (hj:j < ρ.length) (h:f ρ Ω=some (.ok a,Ω')):sAsg f (gN j) ρ Ω=some (.nx,ρ.set j (some a),Ω'):=by
 unfold sAsg
 rw [ze1 h]
 simp [hj]
theorem zw5 {f:Ev→Mo A} {g:A→MS} {ρ:Ev} {Ω Ω':Sto} {x:Exc} (h:f ρ Ω=some (.exc x,Ω')):sAsg f g ρ Ω=some (.exc x,ρ,Ω'):=by
 unfold sAsg sM
 rw [h]
structure St72 (Ω:Sto) (s:Nat) (L b k:Int) (hist:List Int) (bs:List (List Int)) (ns:List Int):Prop where
 at_:WAt Ω s L b k hist.length (bs.map (blkP k)) ns
 wi:WI L b hist bs ns
 L1:1 ≤ L
 L2:L ≤ 40
 b1:1 ≤ b
 b2:b ≤ 40
 k1:1 ≤ k
 k2:k ≤ 12
section
variable {Ω:Sto} {s:Nat} {L b k:Int} {hist:List Int} {bs:List (List Int)} {ns:List Int}
theorem St72.parts (h:St72 Ω s L b k hist bs ns) {last:Int} {q:Nat} {nl:List Int} (h1:1 ≤ last) (T:Taken b hist bs ns last q nl):zaC [.cel s, .int last] Ω=some (.ok (.lst ((prt k bs q nl).map encQ)),Ω) :=
 zwC h.at_ h.b1 (by have:=h.b2;omega) h.wi.few (by have:=h.wi.zvP h.b1 h.L2;omega) h1 T
theorem St72.few (h:St72 Ω s L b k hist bs ns) (q:Nat) (nl:List Int):(prt k bs q nl).length ≤ 100:=by
 have:=h.wi.zvP h.b1 h.L2
 simp [prt];omega
theorem zyp (h:St72 Ω s L b k hist bs ns) (a:A) (v:Int) (ha:zeB L hist.length a=some v) (h1:1 ≤ v) (h2:v ≤ min L hist.length) {q:Nat} {nl:List Int} (T:Taken b hist bs ns v q nl) :
  za5 [.cel s,a] Ω=some (.ok (.int (offW k bs q nl v)),Ω):=by
 have ll:=zg4 h.at_ a v ha
 rw [if_neg (by omega)] at ll
 have pp:=h.parts h1 T
 have hf:=h.few q nl
 have ho:Ω[s]? = some (.ins "Window" (wF L b k hist.length ((bs.map (blkP k)).map encQ) (ns.map A.int))):=h.at_
 have be:=zoM (prt k bs q nl) (by omega) v Ω
 show trim Ω (outR (zdz [some (.cel s),some a,none] Ω))=_
 have g1:(zcr "look_last" [("Window",zce 2 [] zao)] (vVar 0) (zab (vVar 1) a0)) [some (.cel s),some a,none] Ω=some (.ok (.int v),Ω):=by
  refine Eq.trans (zeu (as:=[a]) (s:=s) rfl ho rfl ?_ rfl) ll;exact zaJ rfl zbF
 have g2:(zcr "parts" [("Window",zce 2 [] zaC)] (vVar 0) (zab (vVar 1) a0)) [some (.cel s),some (.int v),none] Ω=some (.ok (.lst ((prt k bs q nl).map encQ)),Ω):=by
  refine Eq.trans (zeu (as:=[.int v]) (s:=s) rfl ho rfl ?_ rfl) pp;exact zaJ rfl zbF
 have q1:zeq [some (.cel s),some (.int v),some (.lst ((prt k bs q nl).map encQ))] Ω=some (.ok (.lst ((prt k bs q nl).map fun p=>A.int p.l)),Ω) :=
  zn3 (n:=1) (js:=[]) (fi:=vSeq (vVar 2)) (g:=gN 0) (ρ:=[some (.cel s),some (.int v),some (.lst ((prt k bs q nl).map encQ))]) (Ω:=Ω) (Ω0:=Ω) (S:=srcOf (.lst ((prt k bs q nl).map encQ)) ((prt k bs q nl).map encQ)) (prt k bs q nl) encQ (fun p=>A.int p.l) (fun ρ=>∃ y,ρ=[y]) (fun x y e=>by rw [(zva e).2])
   (by simp) (fun ys=>by simp [srcOf]) ⟨none,by simp [lcEv]⟩ rfl (by omega) (fun p hp ρ hP ys=>by
    obtain ⟨y,rfl⟩:=hP
    have e:=at_l p (Ω ++ [.lst ys])
    generalize encQ p=P at e
    refine ⟨[some P],⟨_,rfl⟩,by simp,?_⟩
    rw [vOp,zaV (x:=P) (Ω':=Ω ++ [.lst ys]) (by simp),zaV (x:=A.int 1) (Ω':=Ω ++ [.lst ys]) (by simp)]
    exact e) (fun x _=>by simp only [Cl])
 have io:intsOf ((prt k bs q nl).map fun p=>A.int p.l)=some ((prt k bs q nl).map (·.l)):=by
  have:=zkO ((prt k bs q nl).map (·.l))
  rw [List.map_map] at this
  exact this
 have e:zdz [some (.cel s),some a,none] Ω=some (.ret (.int (offW k bs q nl v)),[some (.cel s),some (.int v),some (.lst ((prt k bs q nl).map encQ))],Ω):=by
  unfold zdz
  rw [zap (zeL (by simp) g1)]
  show sSeq _ _ [some (.cel s),some (.int v),none] Ω=_
  rw [zap (zeL (by simp) g2)]
  show sRet _ [some (.cel s),some (.int v),some (.lst ((prt k bs q nl).map encQ))] Ω=_
  have li:zaD Ω (.lst ((prt k bs q nl).map fun p=>A.int p.l))=some ((prt k bs q nl).map fun p=>A.int p.l):=rfl
  refine retE ?_
  have b1:(vCl (zat 2 zb9) (zab (vVar 2) (zab (vVar 1) a0))) [some (.cel s),some (.int v),some (.lst ((prt k bs q nl).map encQ))] Ω=some (.ok (.int (zef (prt k bs q nl) - v)),Ω):=ziV rfl rfl be
  have b2:(vCl gSum (zab zeq a0)) [some (.cel s),some (.int v),some (.lst ((prt k bs q nl).map encQ))] Ω=some (.ok (.int (zi6 (prt k bs q nl))),Ω):=by
   rw [vCl,zaV (zaJ q1 zbF)]
   unfold zi6
   generalize ((prt k bs q nl).map fun p=>A.int p.l)=us at li io
   simp [li,io]
  show (vOp (gAdd false) _ _) _ Ω=_
  rw [vOp,zaV b1,zaV b2]
  unfold offW
  simp
 rw [e]
 simp only [zd5]
 exact ze3
theorem zqY (ok:Sto→Prop) (hok:∀ Ω,ok Ω) (x0 x1 x2 x3:Option A) (Ω:Sto):∀ (ps:List Po) (done:List Rn) (y5:Option A),(∀ p ∈ ps,p.es.length ≤ 1000)→done.length + (zca ps).length ≤ 1000→∃ z5,
  fFor ok (gN 5) zbP (ps.map encQ) [x0,x1,x2,x3,some (.cel Ω.length),y5] (Ω ++ [.lst (zah done)])=some (.nx,[x0,x1,x2,x3,some (.cel Ω.length),z5],Ω ++ [.lst (zah (done ++ zca ps))])
 | [],done,y5,_,_=>⟨y5,by simp [fFor,hok,zca]⟩
 | p :: ps,done,y5,hp,hl=>by
  rw [zdh,List.length_append] at hl
  obtain ⟨z5,q⟩:=zqY ok hok x0 x1 x2 x3 Ω ps (done ++ midR p.s p.es) (some (encQ p)) (fun r hr=>hp r (List.mem_cons_of_mem _ hr)) (by rw [List.length_append];omega)
  refine ⟨z5,?_⟩
  rw [zdh,← List.append_assoc,← q,List.map_cons]
  refine za7 (hok _) (ρ0:=[x0,x1,x2,x3,some (.cel Ω.length),some (encQ p)]) (Ω0:=Ω ++ [.lst (zah done)]) (by simp) ?_
  have m:zfx [encQ p] (Ω ++ [.lst (zah done)])=some (.ok (.lst (zah (midR p.s p.es))),Ω ++ [.lst (zah done)]):=zt8 p.s p.l p.d p.es (hp p (by simp)) _
  have cl:zfL (Ω ++ [Cell.lst (zah done)]) (.cel Ω.length)=some (Ω.length,zah done):=zcp (by simp)
  have il:isL (Ω ++ [Cell.lst (zah done)]) (.cel Ω.length):=zg0 (zaH (ds:=zah done) (by simp))
  have hz:(zah done).length + (zah (midR p.s p.es)).length ≤ sizeLine:=by rw [sizeLine_eq];simp [zah];omega
  have er:zah (done ++ midR p.s p.es)=zah done ++ zah (midR p.s p.es):=by simp [zah]
  have hset:(Ω ++ [Cell.lst (zah done)]).set Ω.length (.lst (zah done ++ zah (midR p.s p.es)))=Ω ++ [.lst (zah done ++ zah (midR p.s p.es))]:=by simp
  rw [er,← hset]
  generalize Ω ++ [Cell.lst (zah done)]=Ω1 at *
  generalize zah (midR p.s p.es)=us at *
  generalize zah done=vs at *
  generalize encQ p=P at *
  simp [zbP,zat,m,cl,il,hz,zh6]
theorem zt4 (h:St72 Ω s L b k hist bs ns) (p:Int) (a:A) (v:Int) (ha:zeB L hist.length a=some v) (hno:v < 1∨min L hist.length < v∨p < 1∨v < p) :
  zak [.cel s, .int p,a] Ω=some (.exc ⟨"NoPlace",[]⟩,Ω):=by
 have ll:=zg4 h.at_ a v ha
 have ho:Ω[s]? = some (.ins "Window" (wF L b k hist.length ((bs.map (blkP k)).map encQ) (ns.map A.int))):=h.at_
 show trim Ω (outR (zaL [some (.cel s),some (.int p),some a,none,none,none] Ω))=_
 have g1:(zcr "look_last" [("Window",zce 2 [] zao)] (vVar 0) (zab (vVar 2) a0)) [some (.cel s),some (.int p),some a,none,none,none] Ω=zao [.cel s,a] Ω:=by
  refine zeu (as:=[a]) (s:=s) rfl ho rfl ?_ rfl;exact zaJ rfl zbF
 unfold zaL
 by_cases hc:v < 1∨min L hist.length < v
 ·rw [if_pos hc] at ll
  rw [ll] at g1
  rw [zq6 (zw5 g1)]
  simp [zo7]
 ·rw [if_neg hc] at ll
  rw [ll] at g1
  rw [zap (zeL (by simp) g1)]
  have h3:p < 1∨v < p:=by
   rcases hno with z | z | z | z
   ·exact absurd (.inl z) hc
   ·exact absurd (.inr z) hc
   ·exact .inl z
   ·exact .inr z
  have s1:(1:Nat) ≤ sizeLine:=by decide
  have e3:(sIf (vOrT (zaP (vOp gLt (vVar 1) (cI 1))) (zaP (vOp gGt (vVar 1) (vVar 2)))) (zgY "NoPlace" (zab (cS "the places go from 1 to last") a0)) sNx) [some (.cel s),some (.int p),some (.int v),none,none,none] Ω=some (.exc ⟨"NoPlace",[]⟩,[some (.cel s),some (.int p),some (.int v),none,none,none],Ω):=by
   by_cases h4:p < 1
   ·simp [h4,s1]
   ·have h5:v < p:=h3.resolve_left h4
    simp [h4,h5,s1]
  show trim Ω (outR (sSeq _ _ [some (.cel s),some (.int p),some (.int v),none,none,none] Ω))=_
  rw [zq6 e3]
  simp [zo7]
theorem zzj (h:St72 Ω s L b k hist bs ns) (p:Int) (a:A) (v:Int) (ha:zeB L hist.length a=some v) (h1:1 ≤ v) (h2:v ≤ min L hist.length) (hp:1 ≤ p) (hp2:p ≤ v) {q:Nat} {nl:List Int} (T:Taken b hist bs ns v q nl) (n:Int) (hn:na (pkd (zca (prt k bs q nl))) 0 (p + (zef (prt k bs q nl) - v) / 2)=some n) (hn1:1 ≤ p + (zef (prt k bs q nl) - v) / 2) :
  zak [.cel s, .int p,a] Ω=some (.ok (.int n),Ω):=by
 have ll:=zg4 h.at_ a v ha
 rw [if_neg (by omega)] at ll
 have pp:=h.parts h1 T
 have hf:=h.few q nl
 have few:=zvS h.k1 h.k2 h.wi T h.b1 h.b2 (by have:=h.L2;omega)
 have ho:Ω[s]? = some (.ins "Window" (wF L b k hist.length ((bs.map (blkP k)).map encQ) (ns.map A.int))):=h.at_
 have hes:∀ p ∈ prt k bs q nl,p.es.length ≤ 1000:=fun r hr=>by
  have:∀ (ps:List Po),r ∈ ps→r.es.length ≤ (ps.map fun p=>p.es.length).sum:=by
   intro ps
   induction ps with
   | nil=>intro z;cases z
   | cons x xs ih =>
    intro z
    rw [List.map_cons,List.sum_cons]
    rcases List.mem_cons.mp z with y | y
    ·subst y;omega
    ·have:=ih y;omega
  have:=this _ hr
  rw [← zh9] at this
  omega
 have be:=zoM (prt k bs q nl) (by omega) v (Ω ++ [.dead])
 have nt:=znk (zca (prt k bs q nl)) few (p + (zef (prt k bs q nl) - v) / 2) (Ω ++ [.dead])
 rw [if_neg (by omega),hn] at nt
 simp only at nt
 obtain ⟨z5,lp⟩:=zqY (fun Ω'=>zbl Ω' (.lst ((prt k bs q nl).map encQ))=some ((prt k bs q nl).map encQ)) (fun _=>rfl) (some (.cel s)) (some (.int p)) (some (.int v)) (some (.lst ((prt k bs q nl).map encQ))) Ω (prt k bs q nl) [] none hes (by simp;omega)
 rw [List.nil_append] at lp
 show trim Ω (outR (zaL [some (.cel s),some (.int p),some a,none,none,none] Ω))=_
 have g1:(zcr "look_last" [("Window",zce 2 [] zao)] (vVar 0) (zab (vVar 2) a0)) [some (.cel s),some (.int p),some a,none,none,none] Ω=some (.ok (.int v),Ω):=by
  refine Eq.trans (zeu (as:=[a]) (s:=s) rfl ho rfl ?_ rfl) ll;exact zaJ rfl zbF
 have g2:(zcr "parts" [("Window",zce 2 [] zaC)] (vVar 0) (zab (vVar 2) a0)) [some (.cel s),some (.int p),some (.int v),none,none,none] Ω=some (.ok (.lst ((prt k bs q nl).map encQ)),Ω):=by
  refine Eq.trans (zeu (as:=[.int v]) (s:=s) rfl ho rfl ?_ rfl) pp;exact zaJ rfl zbF
 have e:zaL [some (.cel s),some (.int p),some a,none,none,none] Ω=some (.ret (.int n),[some (.cel s),some (.int p),some (.int v),some (.lst ((prt k bs q nl).map encQ)),some (.lst (zah (zca (prt k bs q nl)))),z5],Ω ++ [.dead]):=by
  unfold zaL
  rw [zap (zeL (by simp) g1)]
  show sSeq _ _ [some (.cel s),some (.int p),some (.int v),none,none,none] Ω=_
  have h4:¬ p < 1:=by omega
  have h5:¬ v < p:=by omega
  rw [zap (ρ1:=[some (.cel s),some (.int p),some (.int v),none,none,none]) (Ω':=Ω) (by simp [h4,h5])]
  rw [zap (zeL (by simp) g2)]
  show sSeq _ _ [some (.cel s),some (.int p),some (.int v),some (.lst ((prt k bs q nl).map encQ)),none,none] Ω=_
  generalize (prt k bs q nl).map encQ=us at lp be
  generalize hrr:zah (zca (prt k bs q nl))=rr at lp nt
  rw [zap (ρ1:=[some (.cel s),some (.int p),some (.int v),some (.lst us),some (.cel Ω.length),none]) (Ω':=Ω ++ [.lst []]) (by simp [mkL])]
  rw [zap (ρ1:=[some (.cel s),some (.int p),some (.int v),some (.lst us),some (.cel Ω.length),z5]) (Ω':=Ω ++ [.lst rr]) (by
   rw [forO (S:=srcOf (.lst us) us) (Ω':=Ω ++ [.lst []]) (by simp)]
   exact lp)]
  rw [zw0 (k:=Ω.length) (ds:=rr) rfl (by simp)]
  have es:(Ω ++ [Cell.lst rr]).set Ω.length .dead=Ω ++ [.dead]:=by simp
  rw [es]
  show sRet _ [some (.cel s),some (.int p),some (.int v),some (.lst us),some (.lst rr),z5] (Ω ++ [.dead])=_
  refine retE ?_
  generalize Ω ++ [Cell.dead]=Ω1 at be nt
  have b1:(vCl (zat 2 zb9) (zab (vVar 3) (zab (vVar 2) a0))) [some (.cel s),some (.int p),some (.int v),some (.lst us),some (.lst rr),z5] Ω1=some (.ok (.int (zef (prt k bs q nl) - v)),Ω1):=ziV rfl rfl be
  refine ziV (a := .lst rr) (b := .int (p + (zef (prt k bs q nl) - v) / 2)) rfl ?_ nt
  show (vOp (gAdd false) _ _) _ Ω1=_
  generalize zef (prt k bs q nl) - v=w at b1
  have d2:CDiv w 2:=⟨by decide,by decide⟩
  have b2:(vOp (gDiv) (vCl (zat 2 zb9) (zab (vVar 3) (zab (vVar 2) a0))) (cI 2)) [some (.cel s),some (.int p),some (.int v),some (.lst us),some (.lst rr),z5] Ω1=some (.ok (.int (w / 2)),Ω1):=by
   rw [vOp,zaV b1];simp [d2]
  rw [vOp,zaV (x:=A.int p) (Ω':=Ω1) (by simp),zaV b2]
  simp
 rw [e]
 simp only [zd5]
 exact zgE (by simp only [Cl])
end
end M
namespace M
open PySem L2 V2
structure St74 (Ω:Sto) (k:Nat) (row:List Int) (L:List (List Sg)) (cs:List Nat):Prop where
 at_:zeM Ω 0 k row.length L cs
 lv:Lv k 0 L
 fl:zz8 L=row
 rowc:Ω[1]? = some (.lst (row.map A.int))
 no:1 ∉ cs
 few:row.length ≤ 400
section
variable {Ω:Sto} {k:Nat} {row:List Int} {L:List (List Sg)} {cs:List Nat}
end
end M
namespace M
open PySem L2 V2
end M
namespace M
open PySem L2 V2
end M
namespace M
open PySem L2 V2
end M
namespace M
open PySem L2 V2
theorem znV (L:List Int):eqA 8 (.lst (L.map A.int)) (.lst [])=L.isEmpty:=by cases L <;> rfl
theorem zo4 (L:List Int):pur 8 (.lst (L.map A.int))=true:=by
 simp [pur]
theorem zpw (L:List Int) (k:Nat) (Ω:Sto) (g:Ω[k]? = some (.lst (L.map A.int))):gEq (.cel k) (.lst []) Ω=some (.ok (.bl L.isEmpty),Ω):=by
 have h1:=zo4 L
 have h2:pur 8 (.lst [])=true:=rfl
 have r1:res Ω 6 (.cel k)=some (.lst (L.map A.int)):=by rw [zoG g,zlV _ (by simp)];rfl
 simp [gEq,gEqB,r1,zjZ h2,h1,h2,znV]
end M
namespace M
open PySem L2 V2
open Classical in
theorem zrc {α:Type} {n:Nat} {js:List Nat} {fi:Ev→Mo Src} {g:A→MS} {c:Ev→Mo Bool} {e:Ev→Mo A} {ρ:Ev} {Ω Ω0:Sto} {S:Src} (xs:List α) (enc out:α→A) (kp:α→Bool) (P:Ev→Prop) (inj:∀ x y,enc x=enc y→out x=out y∧kp x=kp y)
  (h0:fi ρ Ω=some (.ok S,Ω0)) (hok:∀ ys,S.ok (Ω0 ++ [.lst ys])) (hP:P (lcEv n js ρ)) (hS:S.ds=xs.map enc) (hl:xs.length ≤ 1000000)
  (step:∀ x ∈ xs,∀ ρ,P ρ→∀ ys,∃ ρ1,P ρ1∧g (enc x) ρ (Ω0 ++ [.lst ys])=some (.nx,ρ1,Ω0 ++ [.lst ys])∧c ρ1 (Ω0 ++ [.lst ys])=some (.ok (kp x),Ω0 ++ [.lst ys])∧e ρ1 (Ω0 ++ [.lst ys])=some (.ok (out x),Ω0 ++ [.lst ys]))
  (hc:∀ x ∈ xs,Cl Ω0.length (out x)):vLC false n js fi g c e ρ Ω=some (.ok (.lst ((xs.filter kp).map out)),Ω0):=by
 let F:A→Option A:=fun a=>if h:∃ x,x ∈ xs∧enc x=a then (if kp (Classical.choose h)=true then some (out (Classical.choose h)) else none) else none
 have hF:∀ x ∈ xs,F (enc x)=if kp x=true then some (out x) else none:=fun x hx=>by
  have h:∃ y,y ∈ xs∧enc y=enc x:=⟨x,hx,rfl⟩
  show (if h:∃ y,y ∈ xs∧enc y=enc x then (if kp (Classical.choose h)=true then some (out (Classical.choose h)) else none) else none)=_
  have q:=inj _ _ (Classical.choose_spec h).2
  rw [dif_pos h,q.1,q.2]
 have ef:∀ l:List α,(∀ x ∈ l,x ∈ xs)→(l.map enc).filterMap F=(l.filter kp).map out:=by
  intro l
  induction l with
  | nil=>intro _;rfl
  | cons x r ih =>
   intro h
   have q:=hF x (h x (by simp))
   by_cases hk:kp x=true
   ·rw [if_pos hk] at q
    simp only [List.map_cons,List.filterMap_cons,q,ih fun y hy=>h y (by simp [hy]),List.filter_cons,hk,if_true]
   ·rw [if_neg hk] at q
    simp only [List.map_cons,List.filterMap_cons,q,ih fun y hy=>h y (by simp [hy]),List.filter_cons,if_neg hk]
 have q:=ziW (n:=n) (js:=js) (fi:=fi) (g:=g) (c:=c) (e:=e) (ρ:=ρ) (Ω:=Ω) (Ω0:=Ω0) (S:=S) F P h0 hok hP (by rw [hS];simpa using hl) (fun x hx ρ hp ys=>by
  rw [hS] at hx
  obtain ⟨y,hy,rfl⟩:=List.mem_map.mp hx
  obtain ⟨ρ1,h1,h2,h3,h4⟩:=step y hy ρ hp ys
  have q:=hF y hy
  by_cases hk:kp y=true
  ·rw [if_pos hk] at q
   rw [hk] at h3
   exact ⟨ρ1,h1,h2, .inl ⟨out y,q,h3,h4⟩⟩
  ·rw [if_neg hk] at q
   rw [Bool.eq_false_iff.mpr hk] at h3
   exact ⟨ρ1,h1,h2, .inr ⟨q,h3⟩⟩) (by
  rw [hS,ef xs fun _ h=>h]
  exact ziC fun a ha=>by
   obtain ⟨x,hx,rfl⟩:=List.mem_map.mp ha
   exact hc x (List.mem_filter.mp hx).1)
 rw [hS,ef xs fun _ h=>h] at q
 exact q
theorem ztZ (n:Int) (L:List Int) (h:n ∈ L) (c:Nat) (Ω:Sto) (g:Ω[c]? = some (.lst (L.map A.int))):gMem true (.int n) (.cel c) Ω=some (.ok (.bl false),Ω):=by
 have h1:=zo4 L
 have r1:res Ω 6 (.cel c)=some (.lst (L.map A.int)):=by rw [zoG g,zlV _ (by simp)];rfl
 have h2:pur 8 (.int n)=true:=rfl
 have h3:pur 7 (.int n)=true:=rfl
 have ha:((L.map A.int).any fun d=>eqA 7 d (.int n))=true:=by
  rw [List.any_eq_true]
  exact ⟨.int n,List.mem_map_of_mem h,by simp [eqA]⟩
 unfold gMem
 rw [r1,zjZ h2]
 simp only [h3,h1,Bool.and_self,if_true,ha,Bool.not_true]
theorem zyi (xs:List Int) (hz:xs.length ≤ 100000) (n:Int) (x0 x1 x2 x3 x4 x6 x8:Option A) (Ω:Sto):zcz [x0,x1,x2,x3,x4,some (.int n),x6,some (.lst (xs.map A.int)),x8] Ω=some (.ok (.lst ((xs.filter fun x=>decide (x < n)).map A.int)),Ω) :=
 zrc (n:=1) (js:=[5]) (fi:=vSeq (vVar 7)) (g:=gN 0) (ρ:=[x0,x1,x2,x3,x4,some (.int n),x6,some (.lst (xs.map A.int)),x8]) (Ω:=Ω) (Ω0:=Ω) (S:=srcOf (.lst (xs.map A.int)) (xs.map A.int)) xs A.int A.int (fun x=>decide (x < n)) (fun ρ=>∃ y,ρ=[y,some (.int n)]) (fun x y e=>by cases e;exact ⟨rfl,rfl⟩)
  (by simp) (fun ys=>by simp [srcOf]) ⟨none,by simp [lcEv]⟩ rfl (by omega) (fun x hx ρ hP ys=>by
   obtain ⟨y,rfl⟩:=hP
   exact ⟨[some (.int x),some (.int n)],⟨_,rfl⟩,by simp,by simp,by simp⟩) (fun x _=>by simp only [Cl])
theorem zyY (xs:List Int) (hz:xs.length ≤ 100000) (n:Int) (x0 x1 x2 x3 x4 x6 x8:Option A) (Ω:Sto):zbD [x0,x1,x2,x3,x4,some (.int n),x6,some (.lst (xs.map A.int)),x8] Ω=some (.ok (.lst ((xs.filter fun x=>decide (x ≤ n)).map A.int)),Ω) :=
 zrc (n:=1) (js:=[5]) (fi:=vSeq (vVar 7)) (g:=gN 0) (ρ:=[x0,x1,x2,x3,x4,some (.int n),x6,some (.lst (xs.map A.int)),x8]) (Ω:=Ω) (Ω0:=Ω) (S:=srcOf (.lst (xs.map A.int)) (xs.map A.int)) xs A.int A.int (fun x=>decide (x ≤ n)) (fun ρ=>∃ y,ρ=[y,some (.int n)]) (fun x y e=>by cases e;exact ⟨rfl,rfl⟩)
  (by simp) (fun ys=>by simp [srcOf]) ⟨none,by simp [lcEv]⟩ rfl (by omega) (fun x hx ρ hP ys=>by
   obtain ⟨y,rfl⟩:=hP
   exact ⟨[some (.int x),some (.int n)],⟨_,rfl⟩,by simp,by simp,by simp⟩) (fun x _=>by simp only [Cl])
section
variable {Ω:Sto} {s r:Nat} {L b k:Int} {hist:List Int} {bs:List (List Int)} {ns:List Int}
theorem zmi (h:St72 Ω s L b k hist bs ns) (hr:Ω[r]? = some (.lst (hist.map A.int))) (hh:hist.length ≤ 1000) (p:Int) (a:A) (v:Int) (ha:zeB L hist.length a=some v) (h1:1 ≤ v) (h2:v ≤ min L hist.length) (hp:1 ≤ p) (hp2:p ≤ v) :
  zbq [.cel s, .int L, .cel r, .int p,a] Ω=some (.ok (.bl true),Ω):=by
 obtain ⟨q,nl,T⟩:=taken h.wi h.b1 v h1 (by omega) (by omega)
 obtain ⟨o1,o2,n,hn,hm,u1,u2⟩:=zx0 (L:=L) h.k1 T h1 p hp hp2
 have so:=zzj h p a v ha h1 h2 hp hp2 T n hn o2
 have of:=zyp h a v ha h1 h2 T
 have ho:Ω[s]? = some (.ins "Window" (wF L b k hist.length ((bs.map (blkP k)).map encQ) (ns.map A.int))):=h.at_
 generalize offW k bs q nl v=off at *
 have li:zaD Ω (.cel r)=some (hist.map A.int):=zaH hr
 have si:zbl Ω (.cel r)=some (hist.map A.int):=li
 have ll:((hist.map A.int).length:Int)=hist.length:=by simp
 have hlen:∀ ρ:Ev,ρ[2]? = some (some (.cel r))→(vCl gLen (zab (vVar 2) a0)) ρ Ω=some (.ok (.int hist.length),Ω):=fun ρ hρ=>by
  have v2:(vVar 2) ρ Ω=some (.ok (.cel r),Ω):=by simp [hρ]
  rw [vCl,zaV (zaJ v2 zbF)]
  simp only [gLen,si,ll]
 show trim Ω (outR (zct [some (.cel s),some (.int L),some (.cel r),some (.int p),some a,none,none,none,none] Ω))=_
 have e1:(sIf (zaP (vOp (gIsN false) (vVar 4) cN))
   (sSeq (sAsg (zcr "so_manieth" [("Window",zce 3 [.non] zak)] (vVar 0) (zab (vVar 3) a0)) (gN 5))
   (sSeq (sAsg (zcr "off" [("Window",zce 2 [.non] za5)] (vVar 0) a0) (gN 6))
   (sAsg (vCl zhF (zab (vVar 1) (zab (vCl gLen (zab (vVar 2) a0)) a0))) (gN 4))))
   (sSeq (sAsg (zcr "so_manieth" [("Window",zce 3 [] zak)] (vVar 0) (zab (vVar 3) (zab (vVar 4) a0))) (gN 5))
   (sAsg (zcr "off" [("Window",zce 2 [] za5)] (vVar 0) (zab (vVar 4) a0)) (gN 6)))) [some (.cel s),some (.int L),some (.cel r),some (.int p),some a,none,none,none,none] Ω=some (.nx,[some (.cel s),some (.int L),some (.cel r),some (.int p),some (.int v),some (.int n),some (.int off),none,none],Ω):=by
  cases a with
  | non =>
   have hv:min L hist.length=v:=by simpa [zeB] using ha
   rw [zxQ (Ω':=Ω) (by simp [zhm])]
   have g1:(zcr "so_manieth" [("Window",zce 3 [.non] zak)] (vVar 0) (zab (vVar 3) a0)) [some (.cel s),some (.int L),some (.cel r),some (.int p),some .non,none,none,none,none] Ω=some (.ok (.int n),Ω):=by
    refine Eq.trans (zeu (as:=[.int p]) (s:=s) rfl ho rfl ?_ rfl) so;exact zaJ rfl zbF
   have g2:(zcr "off" [("Window",zce 2 [.non] za5)] (vVar 0) a0) [some (.cel s),some (.int L),some (.cel r),some (.int p),some .non,some (.int n),none,none,none] Ω=some (.ok (.int off),Ω):=by
    refine Eq.trans (zeu (as:=[]) (s:=s) rfl ho rfl ?_ rfl) of;exact zbF
   rw [zap (zeL (by simp) g1)]
   show sSeq _ _ [some (.cel s),some (.int L),some (.cel r),some (.int p),some .non,some (.int n),none,none,none] Ω=_
   rw [zap (zeL (by simp) g2)]
   show sAsg _ _ [some (.cel s),some (.int L),some (.cel r),some (.int p),some .non,some (.int n),some (.int off),none,none] Ω=_
   have g3:(vCl zhF (zab (vVar 1) (zab (vCl gLen (zab (vVar 2) a0)) a0))) [some (.cel s),some (.int L),some (.cel r),some (.int p),some .non,some (.int n),some (.int off),none,none] Ω=some (.ok (.int v),Ω):=by
    have c1:(zab (vVar 1) (zab (vCl gLen (zab (vVar 2) a0)) a0)) [some (.cel s),some (.int L),some (.cel r),some (.int p),some .non,some (.int n),some (.int off),none,none] Ω=some (.ok [.int L, .int hist.length],Ω):=zaJ rfl (zaJ (hlen _ rfl) zbF)
    rw [vCl,zaV c1,← hv]
    simp
   rw [zeL (by simp) g3]
   rfl
  | int i =>
   have hv:i=v:=by simpa [zeB] using ha
   subst hv
   have g1:(zcr "so_manieth" [("Window",zce 3 [] zak)] (vVar 0) (zab (vVar 3) (zab (vVar 4) a0))) [some (.cel s),some (.int L),some (.cel r),some (.int p),some (.int i),none,none,none,none] Ω=some (.ok (.int n),Ω):=by
    refine Eq.trans (zeu (as:=[.int p, .int i]) (s:=s) rfl ho rfl ?_ rfl) so;exact zaJ rfl (zaJ rfl zbF)
   have g2:(zcr "off" [("Window",zce 2 [] za5)] (vVar 0) (zab (vVar 4) a0)) [some (.cel s),some (.int L),some (.cel r),some (.int p),some (.int i),some (.int n),none,none,none] Ω=some (.ok (.int off),Ω):=by
    refine Eq.trans (zeu (as:=[.int i]) (s:=s) rfl ho rfl ?_ rfl) of;exact zaJ rfl zbF
   have ht:(zaP (vOp (gIsN false) (vVar 4) cN)) [some (.cel s),some (.int L),some (.cel r),some (.int p),some (.int i),none,none,none,none] Ω=some (.ok false,Ω):=by simp [zhm]
   unfold sIf
   rw [ze1 ht]
   simp only [Bool.false_eq_true,if_false]
   rw [zap (zeL (by simp) g1)]
   show sAsg _ _ [some (.cel s),some (.int L),some (.cel r),some (.int p),some (.int i),some (.int n),none,none,none] Ω=_
   rw [zeL (by simp) g2]
   rfl
  | _=>simp [zeB] at ha
 have gm:=ztZ n hist hm r Ω hr
 have w:∀ n:Int,zbB [.int n] Ω=some (.ok (.bl true),Ω):=fun n=>by simp [zbB,ziI]
 have e2:(vOrT (zjl (zaP (vCl (zat 1 zbB) (zab (vVar 5) a0)))) (vOrT (zjl (zaP (vCl (zat 1 zbB) (zab (vVar 6) a0)))) (vOrT (zaP (vOp gLt (vVar 6) (cI 0))) (zaP (vOp (gMem true) (vVar 5) (vVar 2)))))) [some (.cel s),some (.int L),some (.cel r),some (.int p),some (.int v),some (.int n),some (.int off),none,none] Ω=some (.ok false,Ω):=by
  have ho1:¬ off < 0:=by omega
  simp [zat,w,ho1,gm]
 have hd:((hist.length - v.toNat:Nat):Int)=(hist.length:Int) - v:=by omega
 have cu:=zm4 (hist.map A.int) (hist.length - v.toNat) (by simp)
 rw [← List.map_drop,hd] at cu
 have hdl:(hist.drop (hist.length - v.toNat)).length ≤ 100000:=by simp;omega
 have f1:=zyi (hist.drop (hist.length - v.toNat)) hdl n (some (.cel s)) (some (.int L)) (some (.cel r)) (some (.int p)) (some (.int v)) (some (.int off)) none Ω
 generalize hlo:(((hist.drop (hist.length - v.toNat)).filter fun x=>decide (x < n)).length:Int)=lo at u1
 have f2:=zyY (hist.drop (hist.length - v.toNat)) hdl n (some (.cel s)) (some (.int L)) (some (.cel r)) (some (.int p)) (some (.int v)) (some (.int off)) (some (.int lo)) Ω
 have e3:(sAsg (vSl false (vVar 2) (ziw (vOp (gSub) (vCl gLen (zab (vVar 2) a0)) (vVar 4))) sl0) (gN 7)) [some (.cel s),some (.int L),some (.cel r),some (.int p),some (.int v),some (.int n),some (.int off),none,none] Ω=some (.nx,[some (.cel s),some (.int L),some (.cel r),some (.int p),some (.int v),some (.int n),some (.int off),some (.lst ((hist.drop (hist.length - v.toNat)).map A.int)),none],Ω):=by
  refine zeL (by simp) ?_
  have pt:(ziw (vOp (gSub) (vCl gLen (zab (vVar 2) a0)) (vVar 4))) [some (.cel s),some (.int L),some (.cel r),some (.int p),some (.int v),some (.int n),some (.int off),none,none] Ω=some (.ok (some ((hist.length:Int) - v)),Ω):=by
   have g:(vOp (gSub) (vCl gLen (zab (vVar 2) a0)) (vVar 4)) [some (.cel s),some (.int L),some (.cel r),some (.int p),some (.int v),some (.int n),some (.int off),none,none] Ω=some (.ok (.int ((hist.length:Int) - v)),Ω):=by
    rw [vOp,zaV (hlen _ rfl)]
    simp
   rw [ziw,zaV g];rfl
  have s0:∀ ρ,sl0 ρ Ω=some (.ok none,Ω):=fun _=>rfl
  have v2:(vVar 2) [some (.cel s),some (.int L),some (.cel r),some (.int p),some (.int v),some (.int n),some (.int off),none,none] Ω=some (.ok (.cel r),Ω):=rfl
  rw [vSl,zaV v2,zaV pt,zaV (s0 _)]
  simp only [gSl,li,cu]
  rfl
 have e:zct [some (.cel s),some (.int L),some (.cel r),some (.int p),some a,none,none,none,none] Ω=some (.ret (.bl true),[some (.cel s),some (.int L),some (.cel r),some (.int p),some (.int v),some (.int n),some (.int off),some (.lst ((hist.drop (hist.length - v.toNat)).map A.int)),some (.int lo)],Ω):=by
  unfold zct
  rw [zap e1,zap (ifNx e2),zap e3]
  generalize (hist.drop (hist.length - v.toNat)).map A.int=us at f1 f2
  have l1:(vCl gLen (zab zcz a0)) [some (.cel s),some (.int L),some (.cel r),some (.int p),some (.int v),some (.int n),some (.int off),some (.lst us),none] Ω=some (.ok (.int lo),Ω):=by
   rw [vCl,zaV (zaJ f1 zbF),← hlo]
   simp [gLen,zbl,zaD]
  have l2:(vCl gLen (zab zbD a0)) [some (.cel s),some (.int L),some (.cel r),some (.int p),some (.int v),some (.int n),some (.int off),some (.lst us),some (.int lo)] Ω=some (.ok (.int (((hist.drop (hist.length - v.toNat)).filter fun x=>decide (x ≤ n)).length:Int)),Ω):=by
   rw [vCl,zaV (zaJ f2 zbF)]
   simp [gLen,zbl,zaD]
  generalize (((hist.drop (hist.length - v.toNat)).filter fun x=>decide (x ≤ n)).length:Int)=hi at u2 l2
  rw [zap (zeL (by simp) l1)]
  show sRet _ [some (.cel s),some (.int L),some (.cel r),some (.int p),some (.int v),some (.int n),some (.int off),some (.lst us),some (.int lo)] Ω=_
  refine retE ?_
  show (vAnd _ _) _ Ω=_
  generalize (vCl gLen (zab zbD a0))=gl at l2
  simp [l2,u1,u2]
 rw [e]
 simp only [zd5]
 exact ze3
abbrev cs72:List Str:=["RankError", "NoRow", "NoPlace", "NoPouch", "NoSize", "Wrong", "NoTimes", "Unlike", "NoText"]
theorem zfz (h:St72 Ω s L b k hist bs ns) (p:Int) (a:A) (v:Int) (ha:zeB L hist.length a=some v) (hno:v < 1∨min L hist.length < v∨p < 1∨v < p):zaO [.cel s, .int p,a] Ω=some (.ok (.bl true),Ω):=by
 have no:=zt4 h p a v ha hno
 have s3:(3:Nat) ≤ sizeLine:=by decide
 have h7:(7:Nat) ≤ sizeLine:=by decide
 have t1:anyN (xtab ["NoPlace", "NoRow"] cs72 "NoPlace") ["NoPouch", "NoRow", "NoSize", "NoText", "NoTimes", "Unlike", "Wrong"]=some false:=by decide
 have t2:xtab ["NoPlace", "NoRow"] cs72 "NoPlace" "RankError" = some true:=by decide
 have t3:xtt ["NoPlace", "NoRow"] "NoPlace" "ValueError" = some true:=by decide
 have ho:Ω[s]? = some (.ins "Window" (wF L b k hist.length ((bs.map (blkP k)).map encQ) (ns.map A.int))):=h.at_
 have e0:zcf [some (.cel s),some (.int p),some a,some .non,none,none] Ω=some (.exc ⟨"NoPlace",[]⟩,[some (.cel s),some (.int p),some a,some .non,none,none],Ω):=by
  have g1:(zcr "so_manieth" [("Window",zce 3 [] zak)] (vVar 0) (zab (vVar 1) (zab (vVar 2) a0))) [some (.cel s),some (.int p),some a,some .non,none,none] Ω=some (.exc ⟨"NoPlace",[]⟩,Ω):=by
   refine Eq.trans (zeu (as:=[.int p,a]) (s:=s) rfl ho rfl ?_ rfl) no;exact zaJ rfl (zaJ rfl zbF)
  unfold zcf sExp sM
  rw [g1]
 have e1:∀ q,zs1 4 (zcl q ⟨"NoPlace",[]⟩ (([some (.cel s),some (.int p),some a,some .non,none,none] : Ev).set 4 (some (.adr q))) Ω)=some (.nx,[some (.cel s),some (.int p),some a,some (.lst [.bl true, .bl true, .bl false]),none,some (.bl false)],Ω):=by
  intro q
  simp [zcl,s3,h7,isA,zrB,glOf,t1,t2,t3,zs1,mkL]
 have e2:=zxT (sub:=fun z=>xtab ["NoPlace", "NoRow"] cs72 z "NoPlace" == some true) e0 (by decide) e1
 show noX (fnF 6 zbh) [.cel s, .int p,a] Ω=_
 have pq:gEq (.lst [.bl true, .bl true, .bl false]) (.lst [.bl true, .bl true, .bl false]) Ω=some (.ok (.bl true),Ω):=zt0 (by simp [pur])
 have e:zbh [some (.cel s),some (.int p),some a,none,none,none] Ω=some (.ret (.bl true),[some (.cel s),some (.int p),some a,some (.lst [.bl true, .bl true, .bl false]),none,some (.bl false)],Ω):=by
  unfold zbh
  rw [zap (ρ1:=[some (.cel s),some (.int p),some a,some .non,none,none]) (Ω':=Ω) (by simp)]
  rw [zap e2]
  simp [s3,mkL,pq]
 have e3:fnF 6 zbh [.cel s, .int p,a] Ω=some (.ok (.bl true),Ω):=by
  show trim Ω (outR (zbh [some (.cel s),some (.int p),some a,none,none,none] Ω))=_
  rw [e];simp
 simp only [noX,e3]
end
end M
namespace M
open PySem L2 V2
abbrev Ee (s:Nat) (L:Int) (r:Nat) (c:Int) (m:Int) (x5 x6 x7:Option A):Ev:=[some (.cel s),some (.int L),some (.cel r),some (.int c),some (.int m),x5,x6,x7]
section
variable {Ω:Sto} {s r:Nat} {L b k:Int} {hist:List Int} {bs:List (List Int)} {ns:List Int}
theorem zrF (h:St72 Ω s L b k hist bs ns) (c m:Int) (x7:Option A) (ok:Sto→Prop) (hok:ok Ω):∀ (ts:List (Int × A)) (x5 x6:Option A),(∀ t ∈ ts,∃ v,zeB L hist.length t.2=some v∧(v < 1∨min L hist.length < v∨t.1 < 1∨v < t.1))→∃ z5 z6,
  fFor ok (zeh 2 (zaG (gN 5) (zaG (gN 6) zeF))) zd2 (ts.map fun t=>A.tup [.int t.1,t.2]) (Ee s L r c m x5 x6 x7) Ω=some (.nx,Ee s L r c m z5 z6 x7,Ω)
 | [],x5,x6,_=>⟨x5,x6,by simp [fFor,hok]⟩
 | t :: ts,x5,x6,ht=>by
  obtain ⟨z5,z6,q⟩:=zrF h c m x7 ok hok ts (some (.int t.1)) (some t.2) fun u hu=>ht u (List.mem_cons_of_mem _ hu)
  refine ⟨z5,z6,?_⟩
  rw [← q,List.map_cons]
  obtain ⟨v,hv,hno⟩:=ht t (by simp)
  have rf:=zfz h t.1 t.2 v hv hno
  refine za7 hok (ρ0:=Ee s L r c m (some (.int t.1)) (some t.2) x7) (Ω0:=Ω) (by simp [Ee]) ?_
  generalize t.2=a at rf
  simp [zd2,Ee,zat,rf]
theorem q72 (c v:Int) (h0:0 ≤ c) (h1:c < 2147483587) (hv:1 ≤ v) (hv2:v ≤ 1000) (m:Int) (x5 x6:Option A) (Ω:Sto) :
  ∃ ms:List Int,ms.length=6∧(∀ a ∈ ms,1 ≤ a∧a ≤ v)∧ze9 (Ee s L r c m x5 x6 (some (.int v))) Ω=some (.ok (.lst (ms.map A.int)),Ω):=by
 let f:Int→Int:=fun i=>1 + mixI c i % v
 have hf:∀ i,1 ≤ f i∧f i ≤ v:=fun i=>by
  have a:=Int.emod_nonneg (mixI c i) (show v ≠ 0 by omega)
  have b:=Int.emod_lt_of_pos (mixI c i) (show 0 < v by omega)
  show 1 ≤ 1 + _∧1 + _ ≤ _
  omega
 let F:A→Option A:=fun x=>match x with | .int i=>some (.int (f i)) | _=>none
 have ef:((List.range 6).map fun (i:Nat)=>A.int (0 + (i:Int))).filterMap F=((List.range 6).map fun (i:Nat)=>f (0 + (i:Int))).map A.int:=by
  rw [List.filterMap_map,List.map_map]
  have:(F ∘ fun (i:Nat)=>A.int (0 + (i:Int)))=fun (i:Nat)=>some (A.int (f (0 + (i:Int)))):=rfl
  rw [this]
  exact List.filterMap_eq_map (f:=fun (i:Nat)=>A.int (f (0 + (i:Int)))) ▸ rfl
 refine ⟨(List.range 6).map fun (i:Nat)=>f (0 + (i:Int)),by simp,fun a ha=>?_,?_⟩
 ·obtain ⟨i,_,rfl⟩:=List.mem_map.mp ha
  exact hf _
 ·rw [← ef]
  refine ziW (n:=1) (js:=[3,7]) (fi:=zok (zab (cI 6) a0)) (Ω:=Ω) (Ω0:=Ω) (S:=zgs 0 6) F (fun ρ=>∃ y,ρ=[y,some (.int c),some (.int v)]) ?_ (fun ys=>trivial) ⟨none,by simp [lcEv,Ee]⟩ (by simp) (fun x hx ρ hP ys=>?_) ?_
  ·exact rngO (j:=6) (by simp) (by unfold zfV;omega)
  ·obtain ⟨y,rfl⟩:=hP
   simp only [zgs,List.mem_map,List.mem_range] at hx
   obtain ⟨i,hi,rfl⟩:=hx
   have hi0:(0:Int) + (i:Int)=(i:Int):=by omega
   rw [hi0]
   have m:=fun Ω=>zn9 c (i:Int) Ω h0 (by omega) (by omega) (by omega)
   refine ⟨[some (.int i),some (.int c),some (.int v)],⟨_,rfl⟩,by simp, .inl ⟨.int (f i),rfl,by simp [yesM],?_⟩⟩
   show _=some (Rs.ok (A.int (1 + mixI c (i:Int) % v)),_)
   have hp:0 < v:=by omega
   generalize mixI c (i:Int)=d at m
   simp [zat,m,hp]
  ·simp only [zgs]
   rw [ef]
   exact ziC fun a ha=>by obtain ⟨i,_,rfl⟩:=List.mem_map.mp ha;simp only [Cl]
theorem zrX (h:St72 Ω s L b k hist bs ns) (hr:Ω[r]? = some (.lst (hist.map A.int))) (hh:hist.length ≤ 1000) (c m:Int) (a:A) (v:Int) (ha:zeB L hist.length a=some v) (h1:1 ≤ v) (h2:v ≤ min L hist.length) (x7:Option A) (ok:Sto→Prop) (hok:ok Ω):∀ (ms:List Int) (x5:Option A),(∀ p ∈ ms,1 ≤ p∧p ≤ v)→∃ z5,
  fFor ok (gN 5) zfb (ms.map A.int) (Ee s L r c m x5 (some a) x7) Ω=some (.nx,Ee s L r c m z5 (some a) x7,Ω)
 | [],x5,_=>⟨x5,by simp [fFor,hok]⟩
 | p :: ms,x5,hm=>by
  obtain ⟨z5,q⟩:=zrX h hr hh c m a v ha h1 h2 x7 ok hok ms (some (.int p)) fun u hu=>hm u (List.mem_cons_of_mem _ hu)
  refine ⟨z5,?_⟩
  rw [← q,List.map_cons]
  have hp:=hm p (by simp)
  have ak:=zmi h hr hh p a v ha h1 h2 hp.1 hp.2
  refine za7 hok (ρ0:=Ee s L r c m (some (.int p)) (some a) x7) (Ω0:=Ω) (by simp [Ee]) ?_
  simp [zfb,Ee,zat,ak]
theorem zne (h:St72 Ω s L b k hist bs ns) (hr:Ω[r]? = some (.lst (hist.map A.int))) (hh:hist.length ≤ 1000) (c:Int) (h0:0 ≤ c) (hc1:c < 2147483587) (a:A) (v:Int) (ha:zeB L hist.length a=some v) (h1:1 ≤ v) (h2:v ≤ min L hist.length) (x5 x7:Option A):∃ z5 z7,
  zfG (Ee s L r c (min L hist.length) x5 (some a) x7) Ω=some (.nx,Ee s L r c (min L hist.length) z5 (some a) z7,Ω):=by
 have hL:=h.L2
 obtain ⟨ms,hms,hmb,qq⟩:=q72 (s:=s) (L:=L) (r:=r) c v h0 hc1 h1 (by omega) (min L hist.length) x5 (some a) Ω
 obtain ⟨z5,q⟩:=zrX h hr hh c (min L hist.length) a v ha h1 h2 (some (.int v)) (fun Ω'=>zbl Ω' (.lst (([1,v,(v + 1) / 2] ++ ms).map A.int))=some (([1,v,(v + 1) / 2] ++ ms).map A.int)) rfl ([1,v,(v + 1) / 2] ++ ms) x5 (fun p hp=>by
  rcases List.mem_append.mp hp with z | z
  ·simp only [List.mem_cons,List.not_mem_nil,or_false] at z
   rcases z with e | e | e <;> subst e <;> omega
  ·exact hmb p z)
 have r1:=zfz h (v + 1) a v ha (by omega)
 have r2:=zfz h (0 - c % 9) a v ha (by omega)
 have s3:(3:Nat) ≤ sizeLine:=by decide
 have d2:CDiv (v + 1) 2:=⟨by decide,by decide⟩
 have em:([1,v,(v + 1) / 2] ++ ms).map A.int=[.int 1, .int v, .int ((v + 1) / 2)] ++ ms.map A.int:=by simp
 have hz:(ms.map A.int).length=6:=by simp [hms]
 generalize hmm:min L (hist.length:Int)=m at *
 refine ⟨z5,some (.int v),?_⟩
 unfold zfG
 rw [zap (ρ1:=Ee s L r c m x5 (some a) (some (.int m))) (Ω':=Ω) (by simp [Ee])]
 rw [zap (ρ1:=Ee s L r c m x5 (some a) (some (.int v))) (Ω':=Ω) (by
  cases a with
  | non =>
   have hv:m=v:=by rw [← hmm];simpa [zeB] using ha
   subst hv
   simp [Ee,zhm]
  | int i =>
   have hv:i=v:=by simpa [zeB] using ha
   subst hv
   simp [Ee,zhm]
  | _=>simp [zeB] at ha)]
 rw [zap (ρ1:=Ee s L r c m z5 (some a) (some (.int v))) (Ω':=Ω) (by
  rw [forO (S:=srcOf (.lst (([1,v,(v + 1) / 2] ++ ms).map A.int)) (([1,v,(v + 1) / 2] ++ ms).map A.int)) (Ω':=Ω) (by
   rw [em]
   have l1:(vLst false (zab (cI 1) (zab (vVar 7) (zab (vOp (gDiv) (vOp (gAdd false) (vVar 7) (cI 1)) (cI 2)) a0)))) (Ee s L r c m x5 (some a) (some (.int v))) Ω=some (.ok (.lst [.int 1, .int v, .int ((v + 1) / 2)]),Ω):=by
    simp [Ee,s3,d2,mkL]
   have l2:=zqX l1 qq (by simp;omega)
   have l2':(vOp (gAdd false) (vLst false (zab (cI 1) (zab (vVar 7) (zab (vOp (gDiv) (vOp (gAdd false) (vVar 7) (cI 1)) (cI 2)) a0)))) ze9) (Ee s L r c m x5 (some a) (some (.int v))) Ω=some (.ok (.lst ([.int 1, .int v, .int ((v + 1) / 2)] ++ ms.map A.int)),Ω):=l2
   generalize [A.int 1, .int v, .int ((v + 1) / 2)] ++ ms.map A.int=us at l2'
   unfold vSeq
   rw [zaV l2']
   simp)]
  exact q)]
 rw [Int.zero_sub] at r2
 simp [Ee,zat,r1,r2]
theorem zwc (h:St72 Ω s L b k hist bs ns) (hr:Ω[r]? = some (.lst (hist.map A.int))) (hh:hist.length ≤ 1000) (c:Int) (h0:0 ≤ c) (hc1:c < 2147483587):zgy [.cel s, .int L, .cel r, .int c] Ω=some (.ok (.bl true),Ω):=by
 have hL1:=h.L1
 have li:zbl Ω (.cel r)=some (hist.map A.int):=zaH hr
 have ll:((hist.map A.int).length:Int)=hist.length:=by simp
 have s6:(6:Nat) ≤ sizeLine:=by decide
 have s2:(2:Nat) ≤ sizeLine:=by decide
 have s3:(3:Nat) ≤ sizeLine:=by decide
 obtain ⟨m,hm⟩ : ∃ m,m=min L (hist.length:Int):=⟨_,rfl⟩
 have mk:zeB L hist.length .non=some m:=by rw [hm];rfl
 obtain ⟨z5,z6,q⟩:=zrF h (r:=r) c m none (fun Ω'=>zbl Ω' (.lst (([(1, .int (m + 1)),(1, .int 0),(1, .int (0 - 1 - c % 9)),(0, .int m),(m + 1, .int m),(m + 1, .non)] : List (Int × A)).map fun t=>A.tup [.int t.1,t.2]))=some (([(1, .int (m + 1)),(1, .int 0),(1, .int (0 - 1 - c % 9)),(0, .int m),(m + 1, .int m),(m + 1, .non)] : List (Int × A)).map fun t=>A.tup [.int t.1,t.2])) rfl
  [(1, .int (m + 1)),(1, .int 0),(1, .int (0 - 1 - c % 9)),(0, .int m),(m + 1, .int m),(m + 1, .non)] none none (fun t ht=>by
   simp only [List.mem_cons,List.not_mem_nil,or_false] at ht
   rcases ht with e | e | e | e | e | e <;> subst e
   ·exact ⟨m + 1,rfl,by omega⟩
   ·exact ⟨0,rfl,by omega⟩
   ·exact ⟨0 - 1 - c % 9,rfl,by omega⟩
   ·exact ⟨m,rfl,by omega⟩
   ·exact ⟨m,rfl,by omega⟩
   ·exact ⟨m,mk,by omega⟩)
 have gE:=zpw hist r Ω hr
 have front:∀ f:MS,(sSeq (sAsg (vCl zhF (zab (vVar 1) (zab (vCl gLen (zab (vVar 2) a0)) a0))) (gN 4))
  (sSeq (sFor (vSeq (vLst false (zab (vTup (zab (cI 1) (zab (vOp (gAdd false) (vVar 4) (cI 1)) a0))) (zab (vTup (zab (cI 1) (zab (cI 0) a0))) (zab (vTup (zab (cI 1) (zab (vOp (gSub) (vOp (gSub) (cI 0) (cI 1)) (vOp (gMod) (vVar 3) (cI 9))) a0))) (zab (vTup (zab (cI 0) (zab (vVar 4) a0))) (zab (vTup (zab (vOp (gAdd false) (vVar 4) (cI 1)) (zab (vVar 4) a0))) (zab (vTup (zab (vOp (gAdd false) (vVar 4) (cI 1)) (zab cN a0))) a0)))))))) (zeh 2 (zaG (gN 5) (zaG (gN 6) zeF))) zd2) f))
   [some (.cel s),some (.int L),some (.cel r),some (.int c),none,none,none,none] Ω=f (Ee s L r c m z5 z6 none) Ω:=by
  intro f
  rw [zap (ρ1:=Ee s L r c m none none none) (Ω':=Ω) (by
   have g1:(vCl gLen (zab (vVar 2) a0)) [some (.cel s),some (.int L),some (.cel r),some (.int c),none,none,none,none] Ω=some (.ok (.int hist.length),Ω):=by
    generalize hist.map A.int=u at li ll
    simp [li,ll]
   have g2:(vCl zhF (zab (vVar 1) (zab (vCl gLen (zab (vVar 2) a0)) a0))) [some (.cel s),some (.int L),some (.cel r),some (.int c),none,none,none,none] Ω=some (.ok (.int m),Ω):=by
    rw [vCl,zaV (zaJ (x := .int L) rfl (zaJ g1 zbF)),hm]
    simp
   rw [zeL (by simp) g2]
   rfl)]
  rw [zap (ρ1:=Ee s L r c m z5 z6 none) (Ω':=Ω) (by
   rw [forO (S:=srcOf (.lst (([(1, .int (m + 1)),(1, .int 0),(1, .int (0 - 1 - c % 9)),(0, .int m),(m + 1, .int m),(m + 1, .non)] : List (Int × A)).map fun t=>A.tup [.int t.1,t.2])) (([(1, .int (m + 1)),(1, .int 0),(1, .int (0 - 1 - c % 9)),(0, .int m),(m + 1, .int m),(m + 1, .non)] : List (Int × A)).map fun t=>A.tup [.int t.1,t.2])) (Ω':=Ω) (by
    simp [Ee,s6,s2,mkL])]
   exact q)]
 show trim Ω (outR (ze5 [some (.cel s),some (.int L),some (.cel r),some (.int c),none,none,none,none] Ω))=_
 suffices hfin:∃ ρ,ze5 [some (.cel s),some (.int L),some (.cel r),some (.int c),none,none,none,none] Ω=some (.ret (.bl true),ρ,Ω) by
  obtain ⟨ρ,e⟩:=hfin
  rw [e]
  simp only [zd5]
  exact ze3
 by_cases hn:hist=[]
 ·refine ⟨Ee s L r c m z5 z6 none,?_⟩
  unfold ze5
  rw [front]
  have hl0:hist.length=0:=by rw [hn];rfl
  have rf:=zfz h 1 .non m mk (by omega)
  have gE':gEq (.cel r) (.lst []) Ω=some (.ok (.bl true),Ω):=by rw [gE,hn];rfl
  have r1:(sIf (zaP (vOp gEq (vVar 2) (vLst false a0))) (sRet (vCl (zat 3 zaO) (zab (vVar 0) (zab (cI 1) (zab cN a0))))) sNx) (Ee s L r c m z5 z6 none) Ω=some (.ret (.bl true),Ee s L r c m z5 z6 none,Ω):=by
   rw [zxQ (Ω':=Ω) (by simp [Ee,gE',mkL])]
   simp [Ee,zat,rf]
  rw [zqN r1]
 ·have hl1:1 ≤ hist.length:=by
   cases hist with
   | nil=>exact absurd rfl hn
   | cons x t=>simp
  have hm1:1 ≤ m:=by omega
  have e0:=Int.emod_nonneg c (show m ≠ 0 by omega)
  have e1:=Int.emod_lt_of_pos c (show 0 < m by omega)
  obtain ⟨a5,a7,q1⟩:=zne h hr hh c h0 hc1 .non m mk hm1 (by omega) z5 none
  obtain ⟨b5,b7,q2⟩:=zne h hr hh c h0 hc1 (.int m) m rfl hm1 (by omega) a5 a7
  obtain ⟨c5,c7,q3⟩:=zne h hr hh c h0 hc1 (.int (1 + c % m)) (1 + c % m) rfl (by omega) (by omega) b5 b7
  rw [← hm] at q1 q2 q3
  refine ⟨Ee s L r c m c5 (some (.int (1 + c % m))) c7,?_⟩
  unfold ze5
  rw [front]
  have gE':gEq (.cel r) (.lst []) Ω=some (.ok (.bl false),Ω):=by
   have:hist.isEmpty=false:=by simpa using hn
   rw [gE,this]
  rw [zap (ρ1:=Ee s L r c m z5 z6 none) (Ω':=Ω) (by simp [Ee,gE',mkL])]
  have hp:0 < m:=by omega
  rw [zap (ρ1:=Ee s L r c m c5 (some (.int (1 + c % m))) c7) (Ω':=Ω) (by
   rw [forO (S:=srcOf (.lst [.non, .int m, .int (1 + c % m)]) [.non, .int m, .int (1 + c % m)]) (Ω':=Ω) (by simp [Ee,s3,hp,mkL])]
   have ok3:(srcOf (.lst [.non, .int m, .int (1 + c % m)]) [.non, .int m, .int (1 + c % m)]).ok Ω:=rfl
   show fFor _ _ _ [.non, .int m, .int (1 + c % m)] _ _=_
   rw [za7 ok3 (ρ0:=Ee s L r c m z5 (some .non) none) (Ω0:=Ω) (by simp [Ee]) q1]
   rw [za7 ok3 (ρ0:=Ee s L r c m a5 (some (.int m)) a7) (Ω0:=Ω) (by simp [Ee]) q2]
   rw [za7 ok3 (ρ0:=Ee s L r c m b5 (some (.int (1 + c % m))) b7) (Ω0:=Ω) (by simp [Ee]) q3]
   simp [fFor,ok3])]
  simp
end
end M
namespace M
open PySem L2 V2
theorem zsV (c:Int) (h0:0 ≤ c):∃ L b k:Int,1 ≤ L∧L ≤ 40∧1 ≤ b∧b ≤ 40∧1 ≤ k∧k ≤ 12∧∀ Ω,zbA [.int c] Ω=some (.ok (.tup [.int L, .int b, .int k]),Ω):=by
 have s3:(3:Nat) ≤ sizeLine:=by decide
 have d1:CDiv c 40:=⟨by decide,by decide⟩
 have d2:CDiv c 480:=⟨by decide,by decide⟩
 have d3:CDiv c 2880:=⟨by decide,by decide⟩
 have d4:CDiv c 115200:=⟨by decide,by decide⟩
 have d5:CDiv (1 + c % 40) 12:=⟨by decide,by decide⟩
 by_cases hc:c / 480 % 6=0
 ·refine ⟨1 + c % 40,max (1 + c / 2880 % 40) ((1 + c % 40) / 12),1 + c / 115200 % 12,by omega,by omega,by omega,by omega,by omega,by omega,fun Ω=>?_⟩
  simp [zbA,zeA,d1,d2,d3,d4,d5,hc,s3]
 ·refine ⟨1 + c % 40,max (1 + c / 40 % 12) ((1 + c % 40) / 12),1 + c / 115200 % 12,by omega,by omega,by omega,by omega,by omega,by omega,fun Ω=>?_⟩
  simp [zbA,zeA,d1,d2,d3,d4,d5,hc,s3]
theorem zrE (ns:List Int):∃ n:Nat,n ≤ 58∧∀ Ω,zdA [.scr ns, .int 5, .int 58] Ω=some (.ok (.int n),Ω):=by
 have c:=fun Ω=>znc ns 4 Ω (by decide) (by decide)
 have c0:=zuz ns 4
 generalize zkH ns 4=x at c c0
 have hl:∀ Ω,zaD Ω (.scr ns)=some (ns.map A.int):=fun _=>rfl
 obtain ⟨n,hn⟩:=Int.eq_ofNat_of_zero_le (show 0 ≤ min 58 (max (max 0 ((ns.length:Int) - 5)) (x % 59)) by omega)
 refine ⟨n,by omega,fun Ω=>?_⟩
 simp [zdA,ziE,zat,c]
 omega
theorem zs8 (ns:List Int) (hns:ns.length ≤ 63) (k:Nat) (hk:k ≤ 60):∃ c:Int,0 ≤ c∧c < 2147483587∧∀ Ω,zdv [.scr ns, .int 5, .int k] Ω=some (.ok (.int c),Ω):=by
 have hm:(0:Int) < max 1 (max 0 ((ns.length:Int) - 5)):=by omega
 have hm2:max 1 (max 0 ((ns.length:Int) - 5)) ≤ 100:=by omega
 generalize hx:max 1 (max 0 ((ns.length:Int) - 5))=x at hm hm2
 have e0:=Int.emod_nonneg (k:Int) (show x ≠ 0 by omega)
 have e1:=Int.emod_lt_of_pos (k:Int) hm
 generalize hy:(k:Int) % x=y at e0 e1
 have c:=fun Ω=>znc ns (5 + y) Ω (by omega) (by omega)
 have c0:=zuz ns (5 + y)
 have c1:=zyH ns (5 + y)
 generalize zkH ns (5 + y)=z at c c0 c1
 have m:=fun Ω=>zn9 z k Ω c0 (by omega) (by omega) (by omega)
 refine ⟨mixI z k,mix0 _ _,mix1 _ _,fun Ω=>?_⟩
 have l1:(vCl zmO (zab (cI 0) (zab (vOp (gSub) (vCl gLen (zab (vVar 0) a0)) (vVar 1)) a0))) [some (.scr ns),some (.int 5),some (.int k),none] Ω=some (.ok (.int (max 0 ((ns.length:Int) - 5))),Ω):=by simp
 show trim Ω (outR (zeX [some (.scr ns),some (.int 5),some (.int k),none] Ω))=_
 unfold zeX
 rw [zap (ρ1:=[some (.scr ns),some (.int 5),some (.int k),some (.int (max 0 ((ns.length:Int) - 5)))]) (Ω':=Ω) (by
  unfold sAsg;rw [ze1 l1];simp)]
 generalize hw:max 0 ((ns.length:Int) - 5)=w at hx
 simp [zat,hx,hm,hy,c,m]
structure R72 (Ω:Sto) (L b k:Int) (row:List Int):Prop where
 st:∃ bs ns,St72 Ω 0 L b k row bs ns
 rowc:Ω[1]? = some (.lst (row.map A.int))
abbrev E72 (ns:List Int) (so L b k:Int) (y7 y8 y9 y10 y11 y12 y13:Option A):Ev:=[some (.scr ns),some (.int so),some (.int L),some (.int b),some (.int k),some (.cel 0),some (.cel 1),y7,y8,y9,y10,y11,y12,y13]
theorem zz7 {Ω:Sto} {L b k:Int} {row:List Int} (h:R72 Ω L b k row) (hn:row.length < 400) (ns:List Int) (so c:Int) (hc:0 ≤ c) (hc1:c < 2147483587) (j:Nat) (hj:j ≤ 10) (y7 y10 y11 y12 y13:Option A) :
  ∃ Ω' x,R72 Ω' L b k (row ++ [x])∧zdF (E72 ns so L b k y7 (some (.int c)) (some (.int j)) y10 y11 y12 y13) Ω=some (.nx,E72 ns so L b k y7 (some (.int c)) (some (.int j)) y10 y11 y12 y13,Ω'):=by
 have m:=fun Ω=>zn9 c (1 + (j:Int)) Ω hc (by omega) (by omega) (by omega)
 have m0:=mix0 c (1 + (j:Int))
 have m1:=mix1 c (1 + (j:Int))
 generalize mixI c (1 + (j:Int))=d at m m0 m1
 obtain ⟨x,hx⟩:=zqO d so m0 (by omega)
 have h1l:1 < Ω.length:=(List.getElem?_eq_some_iff.mp h.rowc).1
 obtain ⟨bs,nw,st⟩:=h.st
 have hb40:=st.wi.zvP st.b1 st.L2
 have at1:WAt (Ω.set 1 (.lst ((row ++ [x]).map A.int))) 0 L b k row.length (bs.map (blkP k)) nw:=by
  unfold WAt
  rw [List.getElem?_set_ne (by omega)]
  exact st.at_
 have ob:=at1
 unfold WAt at ob
 have pq:=zxP at1 st.L1 (by have:=st.b2;omega) (by have:=st.wi.few;omega) st.k1 (by have:=st.k2;omega) (by simp;omega) x
 rw [zxG] at pq
 have wi2:=st.wi.put st.L1 st.b1 x
 have er:(row ++ [x]).map A.int=row.map A.int ++ [A.int x]:=by simp
 have hl0:0 < (Ω.set 1 (.lst ((row ++ [x]).map A.int))).length:=by simp;omega
 have lnn:((row ++ [x]).length:Int)=(row.length:Int) + 1:=by simp
 refine ⟨(Ω.set 1 (.lst ((row ++ [x]).map A.int))).set 0 (.ins "Window" (wF L b k (row.length + 1) (((bs3 L b bs nw x).map (blkP k)).map encQ) ((ns2 b nw x).map A.int))),x,⟨⟨bs3 L b bs nw x,ns2 b nw x,⟨?_,wi2,st.L1,st.L2,st.b1,st.b2,st.k1,st.k2⟩⟩,?_⟩,?_⟩
 ·unfold WAt
  rw [List.getElem?_set_self hl0,lnn]
 ·rw [List.getElem?_set_ne (by omega),List.getElem?_set_self h1l]
 ·have il:isL Ω (.cel 1):=zg0 (zaH h.rowc)
  have cl:zfL Ω (.cel 1)=some (1,row.map A.int):=zcp h.rowc
  have hz:(row.map A.int).length < sizeLine:=by rw [sizeLine_eq];simp;omega
  unfold zdF
  rw [zap (ρ1:=E72 ns so L b k y7 (some (.int c)) (some (.int j)) y10 y11 y12 y13) (Ω':=Ω.set 1 (.lst ((row ++ [x]).map A.int))) (by
   rw [er]
   generalize row.map A.int=u at cl hz
   simp [E72,zat,m,hx,il,cl,hz])]
  have g1:(Ω.set 1 (.lst ((row ++ [x]).map A.int)))[1]? = some (.lst (row.map A.int ++ [A.int x])):=by rw [List.getElem?_set_self h1l,er]
  have la:atI (row.map A.int ++ [A.int x]) (-1)=some (.int x):=V2.zlt _ _
  generalize Ω.set 1 (.lst ((row ++ [x]).map A.int))=Ω1 at pq g1 ob
  have li:zaD Ω1 (.cel 1)=some (row.map A.int ++ [A.int x]):=zaH g1
  generalize row.map A.int ++ [A.int x]=u at li la
  have call:(zcr "put" [("Window",zce 2 [] zdy)] (vVar 5) (zab (vOp gIx (vVar 6) (vNeg (cI 1))) a0)) (E72 ns so L b k y7 (some (.int c)) (some (.int j)) y10 y11 y12 y13) Ω1=some (.ok .non,Ω1.set 0 (.ins "Window" (wF L b k (row.length + 1) (((bs3 L b bs nw x).map (blkP k)).map encQ) ((ns2 b nw x).map A.int)))):=by
   refine Eq.trans (zeu (as:=[.int x]) (s:=0) rfl ob rfl ?_ rfl) pq
   refine zaJ ?_ zbF
   show (vOp gIx (vVar 6) (vNeg (cI 1))) _ Ω1=_
   simp [E72,li,la]
  unfold sExp
  rw [ze1 call]
theorem zwF {Ω:Sto} {L b k:Int} {row:List Int} (h:R72 Ω L b k row) (n:Nat) (hn:row.length + n ≤ 400) (hn2:n ≤ 10) (ns:List Int) (so c:Int) (hc:0 ≤ c) (hc1:c < 2147483587) (y7 y9 y10 y11 y12 y13:Option A) :
  ∃ Ω' row' z9,R72 Ω' L b k row'∧row'.length=row.length + n∧fFor (fun _=>True) (gN 9) zdF ((List.range n).map fun (i:Nat)=>A.int (0 + (i:Int))) (E72 ns so L b k y7 (some (.int c)) y9 y10 y11 y12 y13) Ω=some (.nx,E72 ns so L b k y7 (some (.int c)) z9 y10 y11 y12 y13,Ω'):=by
 obtain ⟨ρ1,Ω1,q,row',z9,rfl,h',hl⟩:=zlo (ok:=fun _=>True) (g:=gN 9) (b:=zdF)
  (fun i ρ Ω'=>∃ row' z9,ρ=E72 ns so L b k y7 (some (.int c)) z9 y10 y11 y12 y13∧R72 Ω' L b k row'∧row'.length=row.length + i) (fun _ _ _ _=>trivial)
  ((List.range n).map fun (i:Nat)=>A.int (0 + (i:Int))) 0 (E72 ns so L b k y7 (some (.int c)) y9 y10 y11 y12 y13) Ω ⟨row,y9,rfl,h,rfl⟩
  (by
   rintro i a ρ Ω' ha ⟨row',z9,rfl,h',hl⟩
   have hi:i < n:=by simpa using (List.getElem?_eq_some_iff.mp ha).1
   have ex:a = .int (i:Int):=by
    rw [List.getElem?_map,List.getElem?_range hi] at ha
    simpa using ha.symm
   subst ex
   rw [Nat.zero_add] at hl ⊢
   obtain ⟨Ω2,x,h2,q2⟩:=zz7 h' (by omega) ns so c hc hc1 i (by omega) y7 y10 y11 y12 y13
   exact ⟨E72 ns so L b k y7 (some (.int c)) (some (.int i)) y10 y11 y12 y13,Ω',_,_,by simp [E72], .inl q2,row' ++ [x],some (.int i),rfl,h2,by simp;omega⟩)
 simp only [List.length_map,List.length_range,Nat.zero_add] at hl
 exact ⟨Ω1,row',z9,h',hl,q⟩
theorem zvC {Ω:Sto} {L b k:Int} {row:List Int} (h:R72 Ω L b k row) (i:Nat) (hi:i ≤ 60) (hn:row.length + 4 ≤ 400) (ns:List Int) (hns:ns.length ≤ 63) (so:Int) (y8 y9 y10 y11 y12 y13:Option A) :
  ∃ Ω' row' z8 z9 z10 z11 z12 z13,R72 Ω' L b k row'∧row'.length ≤ row.length + 3∧zeK (E72 ns so L b k (some (.int i)) y8 y9 y10 y11 y12 y13) Ω=some (.nx,E72 ns so L b k (some (.int i)) z8 z9 z10 z11 z12 z13,Ω'):=by
 obtain ⟨c,c0,c1,st⟩:=zs8 ns hns i hi
 obtain ⟨n,hn'⟩:=Int.eq_ofNat_of_zero_le (show 0 ≤ 1 + c % 3 by omega)
 obtain ⟨Ω1,row1,z9,h1,hl,q⟩:=zwF h n (by omega) (by omega) ns so c c0 c1 (some (.int i)) y9 y10 y11 y12 y13
 have m9:=fun Ω=>zn9 c 9 Ω c0 (by omega) (by decide) (by decide)
 have m10:=fun Ω=>zn9 c 10 Ω c0 (by omega) (by decide) (by decide)
 generalize mixI c 9=d9 at m9
 generalize mixI c 10=d10 at m10
 have hr1:1 ≤ row1.length:=by omega
 obtain ⟨bs,nw,s1⟩:=h1.st
 have L1:=s1.L1
 have L2:=s1.L2
 obtain ⟨mm,hmm⟩ : ∃ mm,mm=min L (row1.length:Int):=⟨_,rfl⟩
 have hm1:0 < mm:=by omega
 have e0:=Int.emod_nonneg d9 (show mm ≠ 0 by omega)
 have e1:=Int.emod_lt_of_pos d9 hm1
 have d27:CDiv c 27:=⟨by decide,by decide⟩
 have s3:(3:Nat) ≤ sizeLine:=by decide
 obtain ⟨a,v,ha,hv1,hv2,hat⟩ : ∃ a v,zeB L row1.length a=some v∧1 ≤ v∧v ≤ mm∧atI [.non, .int mm, .int (1 + d9 % mm)] (c / 27 % 3)=some a:=by
  rcases (show c / 27 % 3=0∨c / 27 % 3=1∨c / 27 % 3=2 by omega) with e | e | e <;> rw [e]
  ·exact ⟨.non,mm,by rw [hmm];rfl,by omega,by omega,rfl⟩
  ·exact ⟨.int mm,mm,rfl,by omega,by omega,rfl⟩
  ·exact ⟨.int (1 + d9 % mm),1 + d9 % mm,rfl,by omega,by omega,rfl⟩
 have hv0:0 < v:=by omega
 have f0:=Int.emod_nonneg d10 (show v ≠ 0 by omega)
 have f1:=Int.emod_lt_of_pos d10 hv0
 have ak:=zmi s1 h1.rowc (by omega) (1 + d10 % v) a v ha hv1 (by omega) (by omega) (by omega)
 have li:zbl Ω1 (.cel 1)=some (row1.map A.int):=zaH h1.rowc
 have hlen:(((row1.map A.int).length:Nat):Int)=row1.length:=by simp
 refine ⟨Ω1,row1,some (.int c),z9,some (.int mm),some a,some (.int v),some (.int (1 + d10 % v)),h1,by omega,?_⟩
 unfold zeK
 rw [zap (ρ1:=E72 ns so L b k (some (.int i)) (some (.int c)) y9 y10 y11 y12 y13) (Ω':=Ω) (by simp [E72,zat,st])]
 rw [zap (ρ1:=E72 ns so L b k (some (.int i)) (some (.int c)) z9 y10 y11 y12 y13) (Ω':=Ω1) (by
  rw [forO (S:=zgs 0 n) (Ω':=Ω) (rngO (j:=(n:Int)) (by simp [E72,hn']) (by unfold zfV;omega))]
  exact q)]
 rw [zap (ρ1:=E72 ns so L b k (some (.int i)) (some (.int c)) z9 (some (.int mm)) y11 y12 y13) (Ω':=Ω1) (by
  have g1:(vCl gLen (zab (vVar 6) a0)) (E72 ns so L b k (some (.int i)) (some (.int c)) z9 y10 y11 y12 y13) Ω1=some (.ok (.int row1.length),Ω1):=by
   generalize row1.map A.int=u at li hlen
   simp [E72,li,hlen]
  have g2:(vCl zhF (zab (vVar 2) (zab (vCl gLen (zab (vVar 6) a0)) a0))) (E72 ns so L b k (some (.int i)) (some (.int c)) z9 y10 y11 y12 y13) Ω1=some (.ok (.int mm),Ω1):=by
   rw [vCl,zaV (zaJ (x := .int L) rfl (zaJ g1 zbF)),hmm]
   simp
  rw [zeL (by simp) g2]
  rfl)]
 rw [zap (ρ1:=E72 ns so L b k (some (.int i)) (some (.int c)) z9 (some (.int mm)) (some a) y12 y13) (Ω':=Ω1) (by
  simp [E72,zat,m9,hm1,d27,s3,hat,mkL])]
 rw [zap (ρ1:=E72 ns so L b k (some (.int i)) (some (.int c)) z9 (some (.int mm)) (some a) (some (.int mm)) y13) (Ω':=Ω1) (by simp [E72])]
 rw [zap (ρ1:=E72 ns so L b k (some (.int i)) (some (.int c)) z9 (some (.int mm)) (some a) (some (.int v)) y13) (Ω':=Ω1) (by
  cases a with
  | non =>
   have hv:mm=v:=by rw [hmm];simpa [zeB] using ha
   rw [hv]
   simp [E72,zhm]
  | int i =>
   have hv:i=v:=by simpa [zeB] using ha
   subst hv
   simp [E72,zhm]
  | _=>simp [zeB] at ha)]
 rw [zap (ρ1:=E72 ns so L b k (some (.int i)) (some (.int c)) z9 (some (.int mm)) (some a) (some (.int v)) (some (.int (1 + d10 % v)))) (Ω':=Ω1) (by
  simp [E72,zat,m10,hv0])]
 generalize 1 + d10 % v=p at ak
 by_cases h3:(i:Int) % 3=0
 ·simp [E72,zat,h3,ak]
 ·simp [E72,zat,h3]
theorem zv7 (ns:List Int) (hns:ns.length ≤ 63):∃ W,zmc [.scr ns] []=some (.ok (.bl true),W):=by
 have c0:=fun Ω=>znc ns 0 Ω (by decide) (by decide)
 have c1:=fun Ω=>znc ns 1 Ω (by decide) (by decide)
 have c3:=fun Ω=>znc ns 3 Ω (by decide) (by decide)
 have f0:=zuz ns 1
 have g0:=zuz ns 3
 have g1:=zyH ns 3
 generalize zkH ns 0=x0 at c0
 generalize zkH ns 1=fi at c1 f0
 generalize zkH ns 3=ce at c3 g0 g1
 obtain ⟨L,b,k,L1,L2,b1,b2,k1,k2,sz⟩:=zsV fi f0
 obtain ⟨n,hn,st⟩:=zrE ns
 generalize hso:x0 % 5=so
 have start:R72 [.ins "Window" (wF L b k 0 [] []), .lst []] L b k []:=⟨⟨[],[],⟨rfl,ztR L1 b1,L1,L2,b1,b2,k1,k2⟩⟩,rfl⟩
 obtain ⟨ρ1,Ω1,q,row,z7,z8,z9,z10,z11,z12,z13,rfl,h,hl⟩:=zlo (ok:=fun _=>True) (g:=gN 7) (b:=zeK)
  (fun i ρ Ω'=>∃ row z7 z8 z9 z10 z11 z12 z13,ρ=E72 ns so L b k z7 z8 z9 z10 z11 z12 z13∧R72 Ω' L b k row∧row.length ≤ 3 * i) (fun _ _ _ _=>trivial)
  ((List.range n).map fun (i:Nat)=>A.int (0 + (i:Int))) 0 (E72 ns so L b k none none none none none none none) [.ins "Window" (wF L b k 0 [] []), .lst []] ⟨[],none,none,none,none,none,none,none,rfl,start,by simp⟩
  (by
   rintro i a ρ Ω' ha ⟨row,z7,z8,z9,z10,z11,z12,z13,rfl,h',hl⟩
   have hi:i < n:=by simpa using (List.getElem?_eq_some_iff.mp ha).1
   have ex:a = .int (i:Int):=by
    rw [List.getElem?_map,List.getElem?_range hi] at ha
    simpa using ha.symm
   subst ex
   rw [Nat.zero_add] at hl ⊢
   obtain ⟨Ω2,row2,y8,y9,y10,y11,y12,y13,h2,hl2,q2⟩:=zvC h' i (by omega) (by omega) ns hns so z8 z9 z10 z11 z12 z13
   exact ⟨E72 ns so L b k (some (.int i)) z8 z9 z10 z11 z12 z13,Ω',_,_,by simp [E72], .inl q2,row2,some (.int i),y8,y9,y10,y11,y12,y13,rfl,h2,by omega⟩)
 simp only [List.length_map,List.length_range,Nat.zero_add] at hl
 obtain ⟨bs,nw,s1⟩:=h.st
 have en:=zwc s1 h.rowc (by omega) ce g0 g1
 show ∃ W,trim [] (outR (zhW [some (.scr ns),none,none,none,none,none,none,none,none,none,none,none,none,none] []))=some (.ok (.bl true),W)
 have e:zhW [some (.scr ns),none,none,none,none,none,none,none,none,none,none,none,none,none] []=some (.ret (.bl true),E72 ns so L b k z7 z8 z9 z10 z11 z12 z13,Ω1):=by
  unfold zhW
  rw [zap (ρ1:=[some (.scr ns),some (.int so),none,none,none,none,none,none,none,none,none,none,none,none]) (Ω':=[]) (by simp [zat,c0,hso])]
  rw [zap (ρ1:=[some (.scr ns),some (.int so),some (.int L),some (.int b),some (.int k),none,none,none,none,none,none,none,none,none]) (Ω':=[]) (by simp [zat,c1,sz])]
  rw [zap (ρ1:=[some (.scr ns),some (.int so),some (.int L),some (.int b),some (.int k),some (.cel 0),none,none,none,none,none,none,none,none]) (Ω':=[.ins "Window" (wF L b k 0 [] [])]) (by
   have mk:=zvs L b k []
   generalize hgm:zqg "Window" 4 za3=gm at mk
   simp at mk
   simp [mk])]
  rw [zap (ρ1:=E72 ns so L b k none none none none none none none) (Ω':=[.ins "Window" (wF L b k 0 [] []), .lst []]) (by simp [E72,mkL])]
  rw [zap (ρ1:=E72 ns so L b k z7 z8 z9 z10 z11 z12 z13) (Ω':=Ω1) (by
   rw [forO (S:=zgs 0 n) (Ω':=[.ins "Window" (wF L b k 0 [] []), .lst []]) (rngO (j:=(n:Int)) (by simp [E72,zat,st]) (by unfold zfV;omega))]
   exact q)]
  simp [E72,zat,c3,en]
 rw [e]
 simp only [zd5]
 exact ⟨[],by simp [trim,Cl]⟩
end M
namespace K72
open PySem L2 V2 PyProof.Rows M
def top (i:Nat):Stmt:=PySem.Challenge.pw_rankpouch_k72_window_places.main.body.getD i (.Pass ⟨0,0,0,0⟩)
abbrev zb5:Stmt:=top 12
abbrev zd7:Stmt:=top 15
abbrev zdg:Stmt:=top 16
abbrev zfu:Stmt:=top 17
abbrev zdt:Stmt:=top 18
abbrev zgx:Stmt:=top 20
abbrev zbK:Stmt:=top 21
abbrev ze4:Stmt:=top 22
abbrev zbO:Stmt:=top 23
abbrev zdj:Stmt:=top 26
abbrev zfg:Stmt:=top 27
abbrev zgF:Stmt:=top 28
abbrev zd8:Stmt:=top 30
abbrev zdi:Stmt:=top 31
abbrev zb8:Stmt:=top 32
abbrev zcK:Stmt:=top 33
abbrev zdk:Stmt:=top 34
abbrev zcM:Stmt:=top 35
abbrev zcP:Stmt:=top 36
abbrev zbC:Stmt:=top 37
abbrev zbM:Stmt:=top 38
abbrev zdn:Stmt:=top 39
abbrev zaB:Stmt:=inClass (top 25) 0
abbrev zcN:Stmt:=inClass (top 25) 1
abbrev zaT:Stmt:=inClass (top 25) 2
abbrev zau:Stmt:=inClass (top 25) 4
abbrev zaX:Stmt:=inClass (top 25) 5
abbrev za8:Stmt:=inClass (top 25) 7
abbrev zbL:Stmt:=inClass (top 25) 8
abbrev zlc:Stmt:=top 40
structure Blt (mg:Str→Option Value):Prop where
 ValueError:mg "ValueError" = none
 bool:mg "bool" = none
 enumerate:mg "enumerate" = none
 int:mg "int" = none
 isinstance:mg "isinstance" = none
 len:mg "len" = none
 max:mg "max" = none
 min:mg "min" = none
 range:mg "range" = none
 sorted:mg "sorted" = none
 sum:mg "sum" = none
section
variable {P:Program} {w:World} {K:PySem.W.Frag} {mg:Str→Option Value} {base:Heap}
theorem zkk:zaq ["before", "entry", "slack"] ["before", "entry", "slack"] (zac zb5):=⟨rfl,rfl,rfl,by decide +kernel,rfl,by decide +kernel,by decide +kernel⟩
theorem zkY (B:Blt mg) (h:HasFn K mg "near_enough" zb5):DefV P w K mg base "near_enough" 1 ["before", "entry", "slack"] zb7:=by
 refine DefV.of h zkk (fun _ _ _ _ _ _ us hl=>us3 us hl (fun _ _ _=>rfl)) (fun f cdv A outer s H E hr=>?_)
 exact (zai (za1 (zzO (zmo (o_eq hr.units) (zcn (vv 1) zad (fun _ _=>rfl)) (zcn (vv 0) zad (fun _ _=>rfl)) (za4 _)) (zq8 (zmo o_le (zcn (vv 1) zad (fun _ _=>rfl)) (zam (zbs false) (zam (zbs false) (zcn (vv 0) zad (fun _ _=>rfl)) (vv 2)) zad) (za4 _))))))
theorem zdm:zaq ["row", "length", "at", "run", "times"] ["row"] (zac zd7):=⟨rfl,rfl,rfl,by decide +kernel,rfl,by decide +kernel,by decide +kernel⟩
theorem zpU (B:Blt mg) (h:HasFn K mg "look_row" zd7) (zjf:∃ t,mg "LONGEST" = some (.int 1000000000 t)):DefV P w K mg base "look_row" 1 ["row"] zd1:=by
 refine DefV.of h zdm (fun _ _ _ _ _ _ us hl=>us1 us hl (fun _=>rfl)) (fun f cdv A outer s H E hr=>?_)
 exact (zae (zaw (i:=1) zdm.nd rfl (Or.inl rfl) zad)
  (zae (ze7 zag.passes rfl (zr2 rfl B.enumerate (vv 0)) (zhV rfl (zbd (zaM (i:=2) zdm.nd rfl (Or.inl rfl)) (zbd (zaM (i:=3) zdm.nd rfl (Or.inl rfl)) zfh)))
   (zae (zaw (i:=4) zdm.nd rfl (Or.inl rfl) (zcn (vv 3) zad (fun _ _=>rfl)))
   (zae (zaw (i:=1) zdm.nd rfl (Or.inl rfl) (zam (zbs false) (vv 1) (vv 4)))
   (zai (zdJ (VW.vt (zlB (zbk o_lt (vv 4) zad (za4 _)) (zkV (zbk o_gt (vv 1) (ztY rfl zjf) (za4 _)))))
    (zai zua)
    zbe)))))
  (zai (za1 (vv 1)))))
theorem zhH:zaq ["row", "times_of", "number", "times"] ["row"] (zac zfu):=⟨rfl,rfl,rfl,by decide +kernel,rfl,by decide +kernel,by decide +kernel⟩
theorem ztc (B:Blt mg) (h:HasFn K mg "packed" zfu):DefV P w K mg base "packed" 1 ["row"] zeO:=by
 refine DefV.of h zhH (fun _ _ _ _ _ _ us hl=>us1 us hl (fun _=>rfl)) (fun f cdv A outer s H E hr=>?_)
 exact (zae (zaw (i:=1) zhH.nd rfl (Or.inr rfl) zqS)
  (zae (ze7 zag.passes rfl (ze2 (vv 0)) (zhV rfl (zbd (zaM (i:=2) zhH.nd rfl (Or.inl rfl)) (zbd (zaM (i:=3) zhH.nd rfl (Or.inl rfl)) zfh)))
   (zai (zsq (Room.zoT hr) (vv 1) (vv 2) (zam (zbs false) (zt9 (Room.zoT hr) (vv 1) (vv 2) zad ⟨rfl,rfl,rfl,rfl⟩) (vv 3)))))
  (zai (za1 (zn5 false ["number"] [1] rfl (LcOk.of (zac zfu) ["row", "times_of", "number", "times"] rfl rfl (by decide +kernel)) (ze2 (zax (zr7 rfl false) rfl B.sorted boot_sorted (zaa (vv 1) zaf))) (fun cl C s H fp=>⟨(zaM (i:=0) (show (["number", "times_of"] : List Str).Nodup by decide +kernel) rfl (Or.inl rfl)),zj1,(zdE (zaa (vv 0) (zaa (zww (Room.zoT hr) (vv 1) (vv 0) (fun _ _=>rfl)) zaf)))⟩))))))
theorem zc3:zaq ["pouch", "at", "entries", "low", "high"] ["pouch", "at"] (zac zbK):=⟨rfl,rfl,rfl,by decide +kernel,rfl,by decide +kernel,by decide +kernel⟩
theorem zke (B:Blt mg) (h:HasFn K mg "bounds_ahead" zbK):DefV P w K mg base "bounds_ahead" 1 ["pouch", "at"] zbg:=by
 refine DefV.of h zc3 (fun _ _ _ _ _ _ us hl=>us2 us hl (fun _ _=>rfl)) (fun f cdv A outer s H E hr=>?_)
 exact (zae (zaw (i:=2) zc3.nd rfl (Or.inl rfl) (zcn (vv 0) zad (fun _ _=>rfl)))
  (zae (zaw (i:=3) zc3.nd rfl (Or.inl rfl) (zy2 (zbk o_gt (vv 1) zad (za4 _)) (zcn (zcn (vv 2) (zam zd4 (vv 1) zad) (fun _ _=>rfl)) zad (fun _ _=>rfl)) zad))
  (zae (zaw (i:=4) zc3.nd rfl (Or.inl rfl) (zy2 (zbk o_lt (vv 1) (zax zgI rfl B.len PySem.boot_len (zaa (vv 2) zaf)) (za4 _)) (zam zd4 (zcn (zcn (vv 2) (vv 1) (fun _ _=>rfl)) zad (fun _ _=>rfl)) zad) (zcn (vv 0) zad (fun _ _=>rfl))))
  (zai (za1 (zdE (zaa (vv 3) (zaa (vv 4) zaf))))))))
theorem zeQ:zaq ["self", "length", "block", "keep"] ["self", "length", "block", "keep"] (zac zaB):=⟨rfl,rfl,rfl,by decide +kernel,rfl,by decide +kernel,by decide +kernel⟩
theorem zeH (B:Blt mg) (zbQ:zaI K ["Window"] "block") (zc7:zaI K ["Window"] "full") (zgX:zaI K ["Window"] "keep") (zeN:zaI K ["Window"] "many") (zbf:zaI K ["Window"] "newest") (zdl:zaI K ["Window"] "reach") (f:Addr) (cdv:Value) (A:Around) (outer:List Env) (s:Shared) (H:Hp) (E:XK) (hr:Room 0 (A.deeper (envOfC "Window.__init__" (zac zaB) s.heap.objs.size f cdv))) :
  VSs (cxX P w K mg base ["self", "length", "block", "keep"] "Window.__init__" (zac zaB) f cdv A outer s H E) (fun _=>E) (zaj zaB) zby:=by
 exact (zae (ziz (vv 0) (vv 1) zdl)
  (zae (ziz (vv 0) (vv 2) zbQ)
  (zae (ziz (vv 0) (vv 3) zgX)
  (zae (ziz (vv 0) zad zeN)
  (zae (zoj (ziz (vv 0) (zdb true zaf) zc7))
  (zai (zoj (ziz (vv 0) (zdb true zaf) zbf))))))))
theorem zhI (B:Blt mg) (zbQ:zaI K ["Window"] "block") (zc7:zaI K ["Window"] "full") (zgX:zaI K ["Window"] "keep") (zeN:zaI K ["Window"] "many") (zbf:zaI K ["Window"] "newest") (zdl:zaI K ["Window"] "reach") {cls:Str} (h:HasI K mg cls "Window.__init__" zaB):zql P w K mg base cls 1 4 za3:=zql.of h zeQ (fun _ _ _ _ _ _ us hl=>us4 us hl (fun _ _ _ _=>rfl)) (zeH B zbQ zc7 zgX zeN zbf zdl)
theorem zow (B:Blt mg) (zbQ:zaI K ["Window"] "block") (zc7:zaI K ["Window"] "full") (zgX:zaI K ["Window"] "keep") (zeN:zaI K ["Window"] "many") (zbf:zaI K ["Window"] "newest") (zdl:zaI K ["Window"] "reach") {rk:Str} (h:HasB K mg rk "__init__" "Window.__init__" zaB):ztP P w K mg base rk "__init__" 1 4 za3:=ztP.of h zeQ (fun _ _ _ _ _ _ us hl=>us4 us hl (fun _ _ _ _=>rfl)) (zeH B zbQ zc7 zgX zeN zbf zdl)
theorem zdD:zaq ["self", "others"] ["self"] (zac zaT):=⟨rfl,rfl,rfl,by decide +kernel,rfl,by decide +kernel,by decide +kernel⟩
theorem zgQ (B:Blt mg) (zbQ:zaI K ["Window"] "block") (zc7:zaI K ["Window"] "full") (zbf:zaI K ["Window"] "newest") (zdl:zaI K ["Window"] "reach") {cls:Str} (h:HasM K mg cls "drop_oldest" "Window.drop_oldest" zaT):zbv P w K mg base cls "drop_oldest" 1 1 [] zbc:=by
 refine zbv.of h zdD (fun _ _ _ _ _ _ us hl=>us1 us hl (fun _=>rfl)) (fun f cdv A outer s H E hr=>?_)
 exact (zae (zaw (i:=1) zdD.nd rfl (Or.inl rfl) (zam (zbs false) (zam zlk (zam zd4 (znT (zax zgI rfl B.len PySem.boot_len (zaa (zc4 (vv 0) zc7) zaf))) zad) (zc4 (vv 0) zbQ)) (znT (zax zgI rfl B.len PySem.boot_len (zaa (zc4 (vv 0) zbf) zaf)))))
  (zai (zdJ (zbk o_ge (vv 1) (zc4 (vv 0) zdl) (za4 _))
   (zai (zi2 (i:=0) (f := "full") (zdN (zlh PySem.F.plainAttrs_list PySem.F.slot_list_pop PySem.F.type_list_pop zt7 zzf (zc4 (vv 0) zc7) (zaa zad zaf)))))
   zbe)))
theorem zcH:zaq ["self", "last", "most"] ["self", "last"] (zac za8):=⟨rfl,rfl,rfl,by decide +kernel,rfl,by decide +kernel,by decide +kernel⟩
theorem zhK (B:Blt mg) (zeN:zaI K ["Window"] "many") (zdl:zaI K ["Window"] "reach") (zbo:OwnC K mg "NoPlace") {cls:Str} (h:HasM K mg cls "look_last" "Window.look_last" za8):zbv P w K mg base cls "look_last" 1 2 [] zao:=by
 refine zbv.of h zcH (fun _ _ _ _ _ _ us hl=>us2 us hl (fun _ _=>rfl)) (fun f cdv A outer s H E hr=>?_)
 exact (zae (zaw (i:=2) zcH.nd rfl (Or.inl rfl) (zax (zmR rfl) rfl B.min boot_min (zaa (zc4 (vv 0) zdl) (zaa (zc4 (vv 0) zeN) zaf))))
  (zae (zdJ (zbk zze (vv 1) zhC (za4 _))
   (zai (zaw (i:=1) zcH.nd rfl (Or.inl rfl) (vv 2)))
   zbe)
  (zae (zdJ (VW.vt (zlB (zbk o_lt (vv 1) zad (za4 _)) (zkV (zbk o_gt (vv 1) (vv 2) (za4 _)))))
   (zai (zhG zag rfl zbo rfl (zaa zoF zaf)))
   zbe)
  (zai (za1 (vv 1))))))
theorem zrm:zaq ["parts", "last"] ["parts", "last"] (zac zfg):=⟨rfl,rfl,rfl,by decide +kernel,rfl,by decide +kernel,by decide +kernel⟩
theorem ztm (B:Blt mg) (h:HasFn K mg "beyond" zfg):DefV P w K mg base "beyond" 1 ["parts", "last"] zb9:=by
 refine DefV.of h zrm (fun _ _ _ _ _ _ us hl=>us2 us hl (fun _ _=>rfl)) (fun f cdv A outer s H E hr=>?_)
 exact (zai (za1 (zam zd4 (zax (zwk rfl) rfl B.sum boot_sum (zaa (zn5 false ["part"] [] rfl (LcOk.of (zac zfg) ["parts", "last"] rfl rfl (by decide +kernel)) (ze2 (vv 0)) (fun cl C s H fp=>⟨(zaM (i:=0) (show (["part"] : List Str).Nodup by decide +kernel) rfl (Or.inl rfl)),zj1,(zcn (vv 0) zad (fun _ _=>rfl))⟩)) zaf)) (vv 1))))
theorem zjQ:zaq ["_law_cell_here", "_law_k", "_law_first"] ["_law_cell_here", "_law_k"] (zac zd8):=⟨rfl,rfl,rfl,by decide +kernel,rfl,by decide +kernel,by decide +kernel⟩
theorem zpE (B:Blt mg) (h:HasFn K mg "_law_mix" zd8):DefV P w K mg base "_law_mix" 1 ["_law_cell_here", "_law_k"] zbi:=by
 refine DefV.of h zjQ (fun _ _ _ _ _ _ us hl=>us2 us hl (fun _ _=>rfl)) (fun f cdv A outer s H E hr=>?_)
 exact (zae (zaw (i:=2) zjQ.nd rfl (Or.inl rfl) (zam zdR (zam zlk (zam (zbs false) (vv 0) zad) (zam (zbs false) zad (zam zlk zad (vv 1)))) zad))
  (zai (za1 (zam zdR (zam (zbs false) (zam (zbs false) (zam zlk (zam zig (vv 2) zad) zad) (zam zlk (vv 2) (zam (zbs false) (zam zlk (vv 1) (vv 1)) zad))) (vv 1)) zad))))
theorem zkh:zaq ["_law_cell_here", "_law_sort"] ["_law_cell_here", "_law_sort"] (zac zb8):=⟨rfl,rfl,rfl,by decide +kernel,rfl,by decide +kernel,by decide +kernel⟩
theorem zk8 (B:Blt mg) (h:HasFn K mg "_law_number" zb8):DefV P w K mg base "_law_number" 1 ["_law_cell_here", "_law_sort"] zas:=by
 refine DefV.of h zkh (fun _ _ _ _ _ _ us hl=>us2 us hl (fun _ _=>rfl)) (fun f cdv A outer s H E hr=>?_)
 exact (zae (zdJ (zbk (o_eq hr.units) (vv 1) zad (za4 _))
   (zai (za1 (zam zdR (vv 0) zad)))
   zbe)
  (zae (zdJ (zbk (o_eq hr.units) (vv 1) zad (za4 _))
   (zai (za1 (zam zd4 (zam zdR (vv 0) zad) zad)))
   zbe)
  (zae (zdJ (zbk (o_eq hr.units) (vv 1) zad (za4 _))
   (zai (za1 (zam zd4 (zam zdR (zam zlk (zam zlk (vv 0) (vv 0)) zad) (zam (zbs false) (zam zlk zad (zam zpI zad zad)) zad)) (zam zpI zad zad))))
   zbe)
  (zae (zdJ (zbk (o_eq hr.units) (vv 1) zad (za4 _))
   (zai (za1 (zcn (zdb false (zaa (zam (zbs false) (zam zpI zad zad) (vv 0)) (zaa (zam zd4 (zam zd4 zad (zam zpI zad zad)) (vv 0)) (zaa (zam zd4 (zam zpI zad zad) zad) (zaa (zam zd4 zad (zam zpI zad zad)) zaf))))) (zam zdR (vv 0) zad) (fun _ _=>rfl))))
   zbe)
  (zai (za1 (zcn (zdb false (zaa zad (zaa (zam zd4 zad zad) (zaa zad zaf)))) (zam zig (zam zdR (vv 0) zad) zad) (fun _ _=>rfl))))))))
theorem zlN:zaq ["_law_found"] ["_law_found"] (zac zcM):=⟨rfl,rfl,rfl,by decide +kernel,rfl,by decide +kernel,by decide +kernel⟩
theorem zm8 (B:Blt mg) (h:HasFn K mg "_law_whole" zcM):DefV P w K mg base "_law_whole" 1 ["_law_found"] zbB:=by
 refine DefV.of h zlN (fun _ _ _ _ _ _ us hl=>us1 us hl (fun _=>rfl)) (fun f cdv A outer s H E hr=>?_)
 exact (zai (za1 (zu6 (zax zoZ rfl B.isinstance boot_isinstance (zaa (vv 0) (zaa (zvr rfl B.int PyProof.Rows.boot_int) zaf))) (zq8 (zy8 (zax zoZ rfl B.isinstance boot_isinstance (zaa (vv 0) (zaa (zvr rfl B.bool PyProof.Rows.boot_bool) zaf))))))))
theorem zd3:zaq ["_law_cell_here", "_law_length", "_law_block"] ["_law_cell_here"] (zac zcP):=⟨rfl,rfl,rfl,by decide +kernel,rfl,by decide +kernel,by decide +kernel⟩
theorem zm7 (B:Blt mg) (h:HasFn K mg "_law_sizes" zcP):DefV P w K mg base "_law_sizes" 1 ["_law_cell_here"] zbA:=by
 refine DefV.of h zd3 (fun _ _ _ _ _ _ us hl=>us1 us hl (fun _=>rfl)) (fun f cdv A outer s H E hr=>?_)
 exact (zae (zaw (i:=1) zd3.nd rfl (Or.inl rfl) (zam (zbs false) zad (zam zdR (vv 0) zad)))
  (zae (zaw (i:=2) zd3.nd rfl (Or.inl rfl) (zam (zbs false) zad (zam zdR (zam zig (vv 0) zad) zad)))
  (zae (zdJ (zbk (o_eq hr.units) (zam zdR (zam zig (vv 0) zad) zad) zad (za4 _))
   (zai (zaw (i:=2) zd3.nd rfl (Or.inl rfl) (zam (zbs false) zad (zam zdR (zam zig (vv 0) zad) zad))))
   zbe)
  (zai (za1 (zdE (zaa (vv 1) (zaa (zax (zmC rfl) rfl B.max boot_max (zaa (vv 2) (zaa (zam zig (vv 1) zad) zaf))) (zaa (zam (zbs false) zad (zam zdR (zam zig (vv 0) zad) zad)) zaf)))))))))
theorem zdC:zaq ["row", "place", "last_place", "number", "times"] ["row", "place"] (zac zdg):=⟨rfl,rfl,rfl,by decide +kernel,rfl,by decide +kernel,by decide +kernel⟩
theorem zoe (B:Blt mg) (h:HasFn K mg "number_at" zdg) (zgz:DefV P w K mg base "packed" 1 ["row"] zeO) (zbo:OwnC K mg "NoPlace"):DefV P w K mg base "number_at" 2 ["row", "place"] zde:=by
 refine DefV.of h zdC (fun _ _ _ _ _ _ us hl=>us2 us hl (fun _ _=>rfl)) (fun f cdv A outer s H E hr=>?_)
 exact (zae (zdJ (zbk o_lt (vv 1) zad (za4 _))
   (zai (zhG zag rfl zbo rfl (zaa zoF zaf)))
   zbe)
  (zae (zaw (i:=2) zdC.nd rfl (Or.inl rfl) zad)
  (zae (ze7 zag.passes rfl (ze2 (zaW zag zgz (hr.mono (by first | decide | omega)) rfl (zaa (vv 0) zaf))) (zhV rfl (zbd (zaM (i:=3) zdC.nd rfl (Or.inl rfl)) (zbd (zaM (i:=4) zdC.nd rfl (Or.inl rfl)) zfh)))
   (zae (zaw (i:=2) zdC.nd rfl (Or.inl rfl) (zam (zbs false) (vv 2) (vv 4)))
   (zai (zdJ (zbk o_le (vv 1) (vv 2) (za4 _))
    (zai (za1 (vv 3)))
    zbe))))
  (zai (zhG zag rfl zbo rfl (zaa zoF zaf))))))
theorem zcL:zaq ["row", "places", "length", "number", "times"] ["row"] (zac zdt):=⟨rfl,rfl,rfl,by decide +kernel,rfl,by decide +kernel,by decide +kernel⟩
theorem zng (B:Blt mg) (h:HasFn K mg "places_of" zdt) (zgz:DefV P w K mg base "packed" 1 ["row"] zeO):DefV P w K mg base "places_of" 2 ["row"] zez:=by
 refine DefV.of h zcL (fun _ _ _ _ _ _ us hl=>us1 us hl (fun _=>rfl)) (fun f cdv A outer s H E hr=>?_)
 exact (zae (zaw (i:=1) zcL.nd rfl (Or.inl rfl) zqS)
  (zae (zaw (i:=2) zcL.nd rfl (Or.inl rfl) zad)
  (zae (ze7 zag.passes rfl (ze2 (zaW zag zgz (hr.mono (by first | decide | omega)) rfl (zaa (vv 0) zaf))) (zhV rfl (zbd (zaM (i:=3) zcL.nd rfl (Or.inl rfl)) (zbd (zaM (i:=4) zcL.nd rfl (Or.inl rfl)) zfh)))
   (zae (zsq (Room.zoT hr) (vv 1) (vv 3) (zdE (zaa (zam (zbs false) (vv 2) zad) (zaa (zam (zbs false) (vv 2) (vv 4)) zaf))))
   (zai (zaw (i:=2) zcL.nd rfl (Or.inl rfl) (zam (zbs false) (vv 2) (vv 4))))))
  (zai (za1 (vv 1))))))
theorem zbZ:zaq ["entries", "slack", "kept", "last", "at", "entry"] ["entries", "slack"] (zac zbO):=⟨rfl,rfl,rfl,by decide +kernel,rfl,by decide +kernel,by decide +kernel⟩
theorem zkj (B:Blt mg) (h:HasFn K mg "kept_entries" zbO) (zfe:DefV P w K mg base "near_enough" 1 ["before", "entry", "slack"] zb7):DefV P w K mg base "kept_entries" 2 ["entries", "slack"] zbI:=by
 refine DefV.of h zbZ (fun _ _ _ _ _ _ us hl=>us2 us hl (fun _ _=>rfl)) (fun f cdv A outer s H E hr=>?_)
 exact (zae (zaw (i:=2) zbZ.nd rfl (Or.inl rfl) (zdb true zaf))
  (zae (zaw (i:=3) zbZ.nd rfl (Or.inl rfl) (zam zd4 (zax zgI rfl B.len PySem.boot_len (zaa (vv 0) zaf)) zad))
  (zae (ze7 zag.passes rfl (zr2 rfl B.enumerate (vv 0)) (zhV rfl (zbd (zaM (i:=4) zbZ.nd rfl (Or.inl rfl)) (zbd (zaM (i:=5) zbZ.nd rfl (Or.inl rfl)) zfh)))
   (zai (zdJ (VW.vt (zlB (zbk (o_eq hr.units) (vv 4) zad (za4 _)) (zlB (zbk (o_eq hr.units) (vv 4) (vv 3) (za4 _)) (zkV (ziF (ziG (zaW zag zfe (hr.mono (by first | decide | omega)) rfl (zaa (zcn (vv 2) (zsB zad) (fun _ _=>rfl)) (zaa (zcn (vv 0) (zam (zbs false) (vv 4) zad) (fun _ _=>rfl)) (zaa (vv 1) zaf))))))))))
    (zai (zdN (zlh PySem.F.plainAttrs_list PySem.F.slot_list_append PySem.F.type_list_append zeo zfH (vv 2) (zaa (vv 5) zaf))))
    zbe)))
  (zai (za1 (vf 2))))))
theorem zex:zaq ["pouch", "runs", "ahead", "at", "entry", "through"] ["pouch"] (zac zgF):=⟨rfl,rfl,rfl,by decide +kernel,rfl,by decide +kernel,by decide +kernel⟩
theorem ztf (B:Blt mg) (h:HasFn K mg "midway" zgF) (zeU:DefV P w K mg base "bounds_ahead" 1 ["pouch", "at"] zbg):DefV P w K mg base "midway" 2 ["pouch"] zfx:=by
 refine DefV.of h zex (fun _ _ _ _ _ _ us hl=>us1 us hl (fun _=>rfl)) (fun f cdv A outer s H E hr=>?_)
 exact (zae (zaw (i:=1) zex.nd rfl (Or.inl rfl) (zdb true zaf))
  (zae (zaw (i:=2) zex.nd rfl (Or.inl rfl) zad)
  (zae (ze7 zag.passes rfl (ztk rfl B.enumerate (zcn (vv 0) zad (fun _ _=>rfl))) (zhV rfl (zbd (zaM (i:=3) zex.nd rfl (Or.inl rfl)) (zbd (zaM (i:=4) zex.nd rfl (Or.inl rfl)) zfh)))
   (zae (zaw (i:=5) zex.nd rfl (Or.inl rfl) (zam zig (zax (zyw rfl) rfl B.sum boot_sum (zaa (zaW zag zeU (hr.mono (by first | decide | omega)) rfl (zaa (vv 0) (zaa (vv 3) zaf))) zaf)) zad))
   (zae (zdN (zlh PySem.F.plainAttrs_list PySem.F.slot_list_append PySem.F.type_list_append zeo zfH (vv 1) (zaa (zdE (zaa (zcn (vv 4) zad (fun _ _=>rfl)) (zaa (zam zd4 (vv 5) (vv 2)) zaf))) zaf)))
   (zai (zaw (i:=2) zex.nd rfl (Or.inl rfl) (vv 5))))))
  (zai (za1 (vf 1))))))
theorem zgi:zaq ["_law_script", "_law_k", "_law_cell_here"] ["_law_script", "_law_k"] (zac zdi):=⟨rfl,rfl,rfl,by decide +kernel,rfl,by decide +kernel,by decide +kernel⟩
theorem znv (B:Blt mg) (h:HasFn K mg "_law_cell" zdi) (za9:DefV P w K mg base "_law_mix" 1 ["_law_cell_here", "_law_k"] zbi):DefV P w K mg base "_law_cell" 2 ["_law_script", "_law_k"] zba:=by
 refine DefV.of h zgi (fun _ _ _ _ _ _ us hl=>us2 us hl (fun _ _=>rfl)) (fun f cdv A outer s H E hr=>?_)
 exact (zae (zaw (i:=2) zgi.nd rfl (Or.inl rfl) zad)
  (zae (zdJ (zbk o_lt (vv 1) (zax zgI rfl B.len PySem.boot_len (zaa (vv 0) zaf)) (za4 _))
   (zai (zaw (i:=2) zgi.nd rfl (Or.inl rfl) (zam zdR (zcn (vv 0) (vv 1) (fun _ _=>rfl)) zad)))
   zbe)
  (zai (za1 (zaW zag za9 (hr.mono (by first | decide | omega)) rfl (zaa (vv 2) (zaa (zam (zbs false) (vv 1) zad) zaf)))))))
theorem zhQ:zaq ["row", "entries", "number", "stands"] ["row"] (zac zgx):=⟨rfl,rfl,rfl,by decide +kernel,rfl,by decide +kernel,by decide +kernel⟩
theorem zuw (B:Blt mg) (h:HasFn K mg "of_row" zgx) (zit:DefV P w K mg base "look_row" 1 ["row"] zd1) (zhw:DefV P w K mg base "places_of" 2 ["row"] zez):DefV P w K mg base "of_row" 3 ["row"] zhA:=by
 refine DefV.of h zhQ (fun _ _ _ _ _ _ us hl=>us1 us hl (fun _=>rfl)) (fun f cdv A outer s H E hr=>?_)
 exact (zae (zaw (i:=1) zhQ.nd rfl (Or.inl rfl) (zdb true zaf))
  (zae (ze7 zag.passes rfl (zy7 (zaW zag zhw (hr.mono (by first | decide | omega)) rfl (zaa (vv 0) zaf))) (zhV rfl (zbd (zaM (i:=2) zhQ.nd rfl (Or.inl rfl)) (zbd (zaM (i:=3) zhQ.nd rfl (Or.inl rfl)) zfh)))
   (zae (zdN (zlh PySem.F.plainAttrs_list PySem.F.slot_list_append PySem.F.type_list_append zeo zfH (vv 1) (zaa (zdE (zaa (vv 2) (zaa (zcn (vv 3) zad (fun _ _=>rfl)) (zaa (zcn (vv 3) zad (fun _ _=>rfl)) zaf)))) zaf)))
   (zai (zdJ (zbk (o_ne hr.units) (zcn (vv 3) zad (fun _ _=>rfl)) (zcn (vv 3) zad (fun _ _=>rfl)) (za4 _))
    (zai (zdN (zlh PySem.F.plainAttrs_list PySem.F.slot_list_append PySem.F.type_list_append zeo zfH (vv 1) (zaa (zdE (zaa (vv 2) (zaa (zcn (vv 3) zad (fun _ _=>rfl)) (zaa (zcn (vv 3) zad (fun _ _=>rfl)) zaf)))) zaf))))
    zbe))))
  (zai (za1 (zdE (zaa (zaW zag zit (hr.mono (by first | decide | omega)) rfl (zaa (vv 0) zaf)) (zaa zad (zaa zad (zaa (vf 1) zaf)))))))))
theorem zie:zaq ["pouch", "keep", "size", "slack"] ["pouch", "keep"] (zac ze4):=⟨rfl,rfl,rfl,by decide +kernel,rfl,by decide +kernel,by decide +kernel⟩
theorem zrn (B:Blt mg) (h:HasFn K mg "thinned" ze4) (zeW:DefV P w K mg base "kept_entries" 2 ["entries", "slack"] zbI):DefV P w K mg base "thinned" 3 ["pouch", "keep"] zbT:=by
 refine DefV.of h zie (fun _ _ _ _ _ _ us hl=>us2 us hl (fun _ _=>rfl)) (fun f cdv A outer s H E hr=>?_)
 exact (zae (zaw (i:=2) zie.nd rfl (Or.inl rfl) (zcn (vv 0) zad (fun _ _=>rfl)))
  (zae (zaw (i:=3) zie.nd rfl (Or.inl rfl) (zam (zbs false) (zcn (vv 0) zad (fun _ _=>rfl)) (zam zig (vv 2) (vv 1))))
  (zai (za1 (zdE (zaa (vv 2) (zaa (vv 3) (zaa (zam (zbs false) (zcn (vv 0) zad (fun _ _=>rfl)) zad) (zaa (zaW zag zeW (hr.mono (by first | decide | omega)) rfl (zaa (zcn (vv 0) zad (fun _ _=>rfl)) (zaa (vv 3) zaf))) zaf)))))))))
theorem zhS:zaq ["_law_script", "_law_start", "_law_most", "_law_cells"] ["_law_script", "_law_start", "_law_most"] (zac zcK):=⟨rfl,rfl,rfl,by decide +kernel,rfl,by decide +kernel,by decide +kernel⟩
theorem zmt (B:Blt mg) (h:HasFn K mg "_law_steps" zcK) (zbj:DefV P w K mg base "_law_cell" 2 ["_law_script", "_law_k"] zba):DefV P w K mg base "_law_steps" 3 ["_law_script", "_law_start", "_law_most"] zdA:=by
 refine DefV.of h zhS (fun _ _ _ _ _ _ us hl=>us3 us hl (fun _ _ _=>rfl)) (fun f cdv A outer s H E hr=>?_)
 exact (zae (zaw (i:=3) zhS.nd rfl (Or.inl rfl) (zax (zmC rfl) rfl B.max boot_max (zaa zad (zaa (zam zd4 (zax zgI rfl B.len PySem.boot_len (zaa (vv 0) zaf)) (vv 1)) zaf))))
  (zai (za1 (zax (zmR rfl) rfl B.min boot_min (zaa (vv 2) (zaa (zax (zmC rfl) rfl B.max boot_max (zaa (vv 3) (zaa (zam zdR (zaW zag zbj (hr.mono (by first | decide | omega)) rfl (zaa (vv 0) (zaa (zam zd4 (vv 1) zad) zaf))) (zam (zbs false) (vv 2) zad)) zaf))) zaf))))))
theorem ziA:zaq ["_law_script", "_law_start", "_law_k", "_law_cells"] ["_law_script", "_law_start", "_law_k"] (zac zdk):=⟨rfl,rfl,rfl,by decide +kernel,rfl,by decide +kernel,by decide +kernel⟩
theorem zol (B:Blt mg) (h:HasFn K mg "_law_step" zdk) (zbj:DefV P w K mg base "_law_cell" 2 ["_law_script", "_law_k"] zba) (za9:DefV P w K mg base "_law_mix" 1 ["_law_cell_here", "_law_k"] zbi):DefV P w K mg base "_law_step" 3 ["_law_script", "_law_start", "_law_k"] zdv:=by
 refine DefV.of h ziA (fun _ _ _ _ _ _ us hl=>us3 us hl (fun _ _ _=>rfl)) (fun f cdv A outer s H E hr=>?_)
 exact (zae (zaw (i:=3) ziA.nd rfl (Or.inl rfl) (zax (zmC rfl) rfl B.max boot_max (zaa zad (zaa (zam zd4 (zax zgI rfl B.len PySem.boot_len (zaa (vv 0) zaf)) (vv 1)) zaf))))
  (zai (za1 (zaW zag za9 (hr.mono (by first | decide | omega)) rfl (zaa (zaW zag zbj (hr.mono (by first | decide | omega)) rfl (zaa (vv 0) (zaa (zam (zbs false) (vv 1) (zam zdR (vv 2) (zax (zmC rfl) rfl B.max boot_max (zaa zad (zaa (vv 3) zaf))))) zaf))) (zaa (vv 2) zaf))))))
theorem znG:zaq ["numbers"] ["numbers"] (zac zdj):=⟨rfl,rfl,rfl,by decide +kernel,rfl,by decide +kernel,by decide +kernel⟩
theorem zpM (B:Blt mg) (h:HasFn K mg "pouch_of" zdj) (zlr:DefV P w K mg base "of_row" 3 ["row"] zhA):DefV P w K mg base "pouch_of" 4 ["numbers"] zaR:=by
 refine DefV.of h znG (fun _ _ _ _ _ _ us hl=>us1 us hl (fun _=>rfl)) (fun f cdv A outer s H E hr=>?_)
 exact (zai (za1 (zaW zag zlr (hr.mono (by first | decide | omega)) rfl (zaa (zn5 false ["number"] [] rfl (LcOk.of (zac zdj) ["numbers"] rfl rfl (by decide +kernel)) (ze2 (vv 0)) (fun cl C s H fp=>⟨(zaM (i:=0) (show (["number"] : List Str).Nodup by decide +kernel) rfl (Or.inl rfl)),zj1,(zdE (zaa (vv 0) (zaa zad zaf)))⟩)) zaf))))
theorem zll:zaq ["self", "number"] ["self", "number"] (zac zcN):=⟨rfl,rfl,rfl,by decide +kernel,rfl,by decide +kernel,by decide +kernel⟩
theorem zmq (B:Blt mg) (zeb:DefV P w K mg base "pouch_of" 4 ["numbers"] zaR) (zjY:DefV P w K mg base "thinned" 3 ["pouch", "keep"] zbT) (zbQ:zaI K ["Window"] "block") (zc7:zaI K ["Window"] "full") (zgX:zaI K ["Window"] "keep") (zeN:zaI K ["Window"] "many") (zbf:zaI K ["Window"] "newest") (zch:zbv P w K mg base "Window" "drop_oldest" 1 1 [] zbc) {cls:Str} (h:HasM K mg cls "put" "Window.put" zcN):zbv P w K mg base cls "put" 5 2 [] zdy:=by
 refine zbv.of h zll (fun _ _ _ _ _ _ us hl=>us2 us hl (fun _ _=>rfl)) (fun f cdv A outer s H E hr=>?_)
 exact (zae (ziz (vv 0) (zam (zbs false) (zc4 (vv 0) zeN) zad) zeN)
  (zae (zdN (zvV (zlh PySem.F.plainAttrs_list PySem.F.slot_list_append PySem.F.type_list_append zeo zfH (zc4 (vv 0) zbf) (zaa (vv 1) zaf)) (zuF 1)))
  (zae (zdJ (zbk (o_eq hr.units) (znT (zax zgI rfl B.len PySem.boot_len (zaa (zc4 (vv 0) zbf) zaf))) (zc4 (vv 0) zbQ) (za4 _))
   (zae (zi2 (i:=0) (f := "full") (zi2 (i:=0) (f := "newest") (zdN (zlh PySem.F.plainAttrs_list PySem.F.slot_list_append PySem.F.type_list_append zeo zfH (zc4 (vv 0) zc7) (zaa (zaW zag zjY (hr.mono (by first | decide | omega)) rfl (zaa (zaW zag zeb (hr.mono (by first | decide | omega)) rfl (zaa (zc4 (vv 0) zbf) zaf)) (zaa (zc4 (vv 0) zgX) zaf))) zaf)))))
   (zai (zoj (ziz (vv 0) (zdb true zaf) zbf))))
   zbe)
  (zai (zdN (zoQ zag (TabM.cons zch (hr.mono (by first | decide | omega)) TabM.nil) (vv 0)))))))
theorem zes:zaq ["self", "last", "newest", "blocks"] ["self", "last"] (zac zbL):=⟨rfl,rfl,rfl,by decide +kernel,rfl,by decide +kernel,by decide +kernel⟩
theorem zkD (B:Blt mg) (zeb:DefV P w K mg base "pouch_of" 4 ["numbers"] zaR) (zbQ:zaI K ["Window"] "block") (zc7:zaI K ["Window"] "full") (zbf:zaI K ["Window"] "newest") {cls:Str} (h:HasM K mg cls "parts" "Window.parts" zbL):zbv P w K mg base cls "parts" 5 2 [] zaC:=by
 refine zbv.of h zes (fun _ _ _ _ _ _ us hl=>us2 us hl (fun _ _=>rfl)) (fun f cdv A outer s H E hr=>?_)
 exact (zae (zi2 (i:=0) (f := "newest") (zaw (i:=2) zes.nd rfl (Or.inl rfl) (zlH false (zc4 (vv 0) zbf) (znx (zsB (vv 1))) zn4)))
  (zae (zaw (i:=3) zes.nd rfl (Or.inl rfl) (zam zig (zam zd4 (zam (zbs false) (zam zd4 (vv 1) (zax zgI rfl B.len PySem.boot_len (zaa (vv 2) zaf))) (zc4 (vv 0) zbQ)) zad) (zc4 (vv 0) zbQ)))
  (zai (za1 (zs4 (i:=0) (f := "full") (zam (zbs false) (zlH false (zc4 (vv 0) zc7) (znx (zam zd4 (zax zgI rfl B.len PySem.boot_len (zaa (zc4 (vv 0) zc7) zaf)) (vv 3))) zn4) (zdb false (zaa (zaW zag zeb (hr.mono (by first | decide | omega)) rfl (zaa (vv 2) zaf)) zaf))))))))
theorem zaS:zaq ["self", "place", "last", "parts", "runs", "part"] ["self", "place", "last"] (zac zau):=⟨rfl,rfl,rfl,by decide +kernel,rfl,by decide +kernel,by decide +kernel⟩
theorem zdW (B:Blt mg) (zbx:DefV P w K mg base "beyond" 1 ["parts", "last"] zb9) (zeG:DefV P w K mg base "midway" 2 ["pouch"] zfx) (zb2:DefV P w K mg base "number_at" 2 ["row", "place"] zde) (zal:zbv P w K mg base "Window" "look_last" 1 2 [] zao) (zav:zbv P w K mg base "Window" "parts" 5 2 [] zaC) (zbo:OwnC K mg "NoPlace") (f:Addr) (cdv:Value) (A:Around) (outer:List Env) (s:Shared) (H:Hp) (E:XK) (hr:Room 5 (A.deeper (envOfC "Window.so_manieth" (zac zau) s.heap.objs.size f cdv))) :
  VSs (cxX P w K mg base ["self", "place", "last", "parts", "runs", "part"] "Window.so_manieth" (zac zau) f cdv A outer s H E) (fun _=>E) (zaj zau) zaL:=by
 exact (zae (zaw (i:=2) zaS.nd rfl (Or.inl rfl) (zfo zag (TabM.cons zal (hr.mono (by first | decide | omega)) TabM.nil) (vv 0) (zaa (vv 2) zaf)))
  (zae (zdJ (VW.vt (zlB (zbk o_lt (vv 1) zad (za4 _)) (zkV (zbk o_gt (vv 1) (vv 2) (za4 _)))))
   (zai (zhG zag rfl zbo rfl (zaa zoF zaf)))
   zbe)
  (zae (zaw (i:=3) zaS.nd rfl (Or.inl rfl) (zfo zag (TabM.cons zav (hr.mono (by first | decide | omega)) TabM.nil) (vv 0) (zaa (vv 2) zaf)))
  (zae (zaw (i:=4) zaS.nd rfl (Or.inl rfl) (zdb true zaf))
  (zae (ze7 zag.passes rfl (ze2 (vv 3)) (zaM (i:=5) zaS.nd rfl (Or.inl rfl))
   (zai (zdN (zlh PySem.F.plainAttrs_list PySem.F.slot_list_extend PySem.F.type_list_extend zrg zub (vv 4) (zaa (zaW zag zeG (hr.mono (by first | decide | omega)) rfl (zaa (vv 5) zaf)) zaf)))))
  (zvj 4 (zai (za1 (zaW zag zb2 (hr.mono (by first | decide | omega)) rfl (zaa (vv 4) (zaa (zam (zbs false) (vv 1) (zam zig (zaW zag zbx (hr.mono (by first | decide | omega)) rfl (zaa (vv 3) (zaa (vv 2) zaf))) zad)) zaf)))))))))))
theorem zg2 (B:Blt mg) (zbx:DefV P w K mg base "beyond" 1 ["parts", "last"] zb9) (zeG:DefV P w K mg base "midway" 2 ["pouch"] zfx) (zb2:DefV P w K mg base "number_at" 2 ["row", "place"] zde) (zal:zbv P w K mg base "Window" "look_last" 1 2 [] zao) (zav:zbv P w K mg base "Window" "parts" 5 2 [] zaC) (zbo:OwnC K mg "NoPlace") {cls:Str} (h:zoc K mg cls "so_manieth" "Window.so_manieth" zau #[.none]):zbv P w K mg base cls "so_manieth" 6 3 [] zak:=zbv.ofD (ds:=[]) (dvs:=[]) h .nil (fun _ _ => .nil) zaS (fun _ _ _ _ _ _ _ us hl=>match us,hl with | [_,_,_],_=>⟨_,rfl,rfl⟩) (zdW B zbx zeG zb2 zal zav zbo)
theorem zgN (B:Blt mg) (zbx:DefV P w K mg base "beyond" 1 ["parts", "last"] zb9) (zeG:DefV P w K mg base "midway" 2 ["pouch"] zfx) (zb2:DefV P w K mg base "number_at" 2 ["row", "place"] zde) (zal:zbv P w K mg base "Window" "look_last" 1 2 [] zao) (zav:zbv P w K mg base "Window" "parts" 5 2 [] zaC) (zbo:OwnC K mg "NoPlace") {cls:Str} (h:zoc K mg cls "so_manieth" "Window.so_manieth" zau #[.none]):zbv P w K mg base cls "so_manieth" 6 3 [.non] zak:=zbv.ofD (ds:=[.none]) (dvs:=[.non]) h (.cons rfl .nil) (fun _ _ => .cons (by simp only [V2.Den]) .nil) zaS (fun _ _ _ _ _ _ _ us hl=>match us,hl with | [_,_],_=>⟨_,rfl,rfl⟩) (zdW B zbx zeG zb2 zal zav zbo)
theorem zd0:zaq ["self", "last", "parts"] ["self", "last"] (zac zaX):=⟨rfl,rfl,rfl,by decide +kernel,rfl,by decide +kernel,by decide +kernel⟩
theorem zhT (B:Blt mg) (zbx:DefV P w K mg base "beyond" 1 ["parts", "last"] zb9) (zal:zbv P w K mg base "Window" "look_last" 1 2 [] zao) (zav:zbv P w K mg base "Window" "parts" 5 2 [] zaC) (f:Addr) (cdv:Value) (A:Around) (outer:List Env) (s:Shared) (H:Hp) (E:XK) (hr:Room 5 (A.deeper (envOfC "Window.off" (zac zaX) s.heap.objs.size f cdv))) :
  VSs (cxX P w K mg base ["self", "last", "parts"] "Window.off" (zac zaX) f cdv A outer s H E) (fun _=>E) (zaj zaX) zdz:=by
 exact (zae (zaw (i:=1) zd0.nd rfl (Or.inl rfl) (zfo zag (TabM.cons zal (hr.mono (by first | decide | omega)) TabM.nil) (vv 0) (zaa (vv 1) zaf)))
  (zae (zaw (i:=2) zd0.nd rfl (Or.inl rfl) (zfo zag (TabM.cons zav (hr.mono (by first | decide | omega)) TabM.nil) (vv 0) (zaa (vv 1) zaf)))
  (zai (za1 (zam (zbs false) (zaW zag zbx (hr.mono (by first | decide | omega)) rfl (zaa (vv 2) (zaa (vv 1) zaf))) (zax (zwk rfl) rfl B.sum boot_sum (zaa (zn5 false ["part"] [] rfl (LcOk.of (zac zaX) ["self", "last", "parts"] rfl rfl (by decide +kernel)) (ze2 (vv 2)) (fun cl C s H fp=>⟨(zaM (i:=0) (show (["part"] : List Str).Nodup by decide +kernel) rfl (Or.inl rfl)),zj1,(zcn (vv 0) zad (fun _ _=>rfl))⟩)) zaf)))))))
theorem zmH (B:Blt mg) (zbx:DefV P w K mg base "beyond" 1 ["parts", "last"] zb9) (zal:zbv P w K mg base "Window" "look_last" 1 2 [] zao) (zav:zbv P w K mg base "Window" "parts" 5 2 [] zaC) {cls:Str} (h:zoc K mg cls "off" "Window.off" zaX #[.none]):zbv P w K mg base cls "off" 6 2 [] za5:=zbv.ofD (ds:=[]) (dvs:=[]) h .nil (fun _ _ => .nil) zd0 (fun _ _ _ _ _ _ _ us hl=>match us,hl with | [_,_],_=>⟨_,rfl,rfl⟩) (zhT B zbx zal zav)
theorem zl7 (B:Blt mg) (zbx:DefV P w K mg base "beyond" 1 ["parts", "last"] zb9) (zal:zbv P w K mg base "Window" "look_last" 1 2 [] zao) (zav:zbv P w K mg base "Window" "parts" 5 2 [] zaC) {cls:Str} (h:zoc K mg cls "off" "Window.off" zaX #[.none]):zbv P w K mg base cls "off" 6 2 [.non] za5:=zbv.ofD (ds:=[.none]) (dvs:=[.non]) h (.cons rfl .nil) (fun _ _ => .cons (by simp only [V2.Den]) .nil) zd0 (fun _ _ _ _ _ _ _ us hl=>match us,hl with | [_],_=>⟨_,rfl,rfl⟩) (zhT B zbx zal zav)
theorem zbt:zaq ["_law_window", "_law_length", "_law_row", "_law_place", "_law_last", "_law_found", "_law_off", "_law_lasts", "_law_under"] ["_law_window", "_law_length", "_law_row", "_law_place", "_law_last"] (zac zbC):=⟨rfl,rfl,rfl,by decide +kernel,rfl,by decide +kernel,by decide +kernel⟩
theorem znd (B:Blt mg) (h:HasFn K mg "_law_asked" zbC) (zeJ:DefV P w K mg base "_law_whole" 1 ["_law_found"] zbB) (zgl:zbv P w K mg base "Window" "off" 6 2 [] za5) (za2:zbv P w K mg base "Window" "so_manieth" 6 3 [] zak) (zgt:zbv P w K mg base "Window" "off" 6 2 [.non] za5) (zcC:zbv P w K mg base "Window" "so_manieth" 6 3 [.non] zak):DefV P w K mg base "_law_asked" 7 ["_law_window", "_law_length", "_law_row", "_law_place", "_law_last"] zbq:=by
 refine DefV.of h zbt (fun _ _ _ _ _ _ us hl=>us5 us hl (fun _ _ _ _ _=>rfl)) (fun f cdv A outer s H E hr=>?_)
 exact (zae (zdJ (zbk zze (vv 4) zhC (za4 _))
   (zae (zaw (i:=5) zbt.nd rfl (Or.inr rfl) (zfo zag (TabM.cons zcC (hr.mono (by first | decide | omega)) TabM.nil) (vv 0) (zaa (vv 3) zaf)))
   (zae (zaw (i:=6) zbt.nd rfl (Or.inl rfl) (zoQ zag (TabM.cons zgt (hr.mono (by first | decide | omega)) TabM.nil) (vv 0)))
   (zai (zaw (i:=4) zbt.nd rfl (Or.inl rfl) (zax (zmR rfl) rfl B.min boot_min (zaa (vv 1) (zaa (zax zgI rfl B.len PySem.boot_len (zaa (vv 2) zaf)) zaf)))))))
   (zae (zaw (i:=5) zbt.nd rfl (Or.inr rfl) (zfo zag (TabM.cons za2 (hr.mono (by first | decide | omega)) TabM.nil) (vv 0) (zaa (vv 3) (zaa (vv 4) zaf))))
   (zai (zaw (i:=6) zbt.nd rfl (Or.inl rfl) (zfo zag (TabM.cons zgl (hr.mono (by first | decide | omega)) TabM.nil) (vv 0) (zaa (vv 4) zaf))))))
  (zae (zdJ (VW.vt (zlB (ziF (ziG (zaW zag zeJ (hr.mono (by first | decide | omega)) rfl (zaa (vv 5) zaf)))) (zlB (ziF (ziG (zaW zag zeJ (hr.mono (by first | decide | omega)) rfl (zaa (vv 6) zaf)))) (zlB (zbk o_lt (vv 6) zad (za4 _)) (zkV (zbk (zyR hr.units) (vv 5) (vv 2) rfl))))))
   (zai (za1 zk7))
   zbe)
  (zae (zaw (i:=7) zbt.nd rfl (Or.inl rfl) (zlH false (vv 2) (znx (zam zd4 (zax zgI rfl B.len PySem.boot_len (zaa (vv 2) zaf)) (vv 4))) zn4))
  (zae (zaw (i:=8) zbt.nd rfl (Or.inl rfl) (zax zgI rfl B.len PySem.boot_len (zaa (zn5 false ["_law_value"] [5] rfl (LcOk.of (zac zbC) ["_law_window", "_law_length", "_law_row", "_law_place", "_law_last", "_law_found", "_law_off", "_law_lasts", "_law_under"] rfl rfl (by decide +kernel)) (ze2 (vv 7)) (fun cl C s H fp=>⟨(zaM (i:=0) (show (["_law_value", "_law_found"] : List Str).Nodup by decide +kernel) rfl (Or.inl rfl)),(zru (zbk o_lt (vv 0) (vv 1) (za4 _))),(vv 0)⟩)) zaf)))
  (zai (za1 (zu6 (zmo o_lt (vv 8) (zam (zbs false) (vv 3) (vv 6)) (za4 _)) (zq8 (zmo o_ge (zax zgI rfl B.len PySem.boot_len (zaa (zn5 false ["_law_value"] [5] rfl (LcOk.of (zac zbC) ["_law_window", "_law_length", "_law_row", "_law_place", "_law_last", "_law_found", "_law_off", "_law_lasts", "_law_under"] rfl rfl (by decide +kernel)) (ze2 (vv 7)) (fun cl C s H fp=>⟨(zaM (i:=0) (show (["_law_value", "_law_found"] : List Str).Nodup by decide +kernel) rfl (Or.inl rfl)),(zru (zbk o_le (vv 0) (vv 1) (za4 _))),(vv 0)⟩)) zaf)) (zam zd4 (vv 3) (vv 6)) (za4 _))))))))))
theorem zb3:zaq ["_law_window", "_law_place", "_law_last", "_law_told", "error", "_law_others"] ["_law_window", "_law_place", "_law_last"] (zac zbM):=⟨rfl,rfl,rfl,by decide +kernel,rfl,by decide +kernel,by decide +kernel⟩
theorem zkv (B:Blt mg) (h:HasFn K mg "_law_refused" zbM) (zjg:ClsN K mg "NoPlace") (zjd:ClsN K mg "NoPouch") (znj:ClsN K mg "NoRow") (zk4:ClsN K mg "NoSize") (zli:ClsN K mg "NoText") (zjP:ClsN K mg "NoTimes") (zhx:ClsN K mg "RankError") (zlF:ClsN K mg "Unlike") (zn0:ClsN K mg "Wrong") (za2:zbv P w K mg base "Window" "so_manieth" 6 3 [] zak) (T_all:XTab K ["NoPlace", "NoRow"] ["RankError", "NoRow", "NoPlace", "NoPouch", "NoSize", "Wrong", "NoTimes", "Unlike", "NoText"]):DefV P w K mg base "_law_refused" 7 ["_law_window", "_law_place", "_law_last"] zaO:=by
 refine DefV.ofN (DefN.of0 h zb3 (fun _ _ _ _ _ _ us hl=>us3 us hl (fun _ _ _=>rfl)) (fun f cdv A outer s H E hr=>?_))
 exact (zmm (VS.v0 (zaw (i:=3) zb3.nd rfl (Or.inl rfl) zhC))
  (zmm (zwx (i:=4) (rs:=["NoPlace", "NoRow"]) (ns:=["RankError", "NoRow", "NoPlace", "NoPouch", "NoSize", "Wrong", "NoTimes", "Unlike", "NoText"]) zsF rfl zjg rfl T_all zb3.nd rfl rfl (fun W=>(VSs.v0 (zai (zdN (zfo zsy (TabM.cons za2 (hr.mono (by first | decide | omega)) TabM.nil) (vv 0) (zaa (vv 1) (zaa (vv 2) zaf)))))))
   (fun p oe e he=>(zae (zaw (i:=5) zb3.nd rfl (Or.inl rfl) (zax (zvn (List.mem_append_right _ (List.mem_singleton_self _)) T_all he) rfl B.isinstance boot_isinstance (zaa (vv 4) (zaa (zdE (zaa (ziD zjd rfl) (zaa (ziD znj rfl) (zaa (ziD zk4 rfl) (zaa (ziD zli rfl) (zaa (ziD zjP rfl) (zaa (ziD zlF rfl) (zaa (ziD zn0 rfl) zaf)))))))) zaf))))
   (zai (zaw (i:=3) zb3.nd rfl (Or.inl rfl) (zdb false (zaa (zax (zvn (List.mem_append_right _ (List.mem_singleton_self _)) T_all he) rfl B.isinstance boot_isinstance (zaa (vv 4) (zaa (ziD zhx rfl) zaf))) (zaa (zax (zvn (List.mem_append_right _ (List.mem_singleton_self _)) T_all he) rfl B.isinstance boot_isinstance (zaa (vv 4) (zaa (zvr rfl B.ValueError zjb) zaf))) (zaa (vv 5) zaf)))))))))
  (VSs.v0 (zai (za1 (zmo (o_eq hr.units) (vv 3) (zdb false (zaa zk7 (zaa zk7 (zaa zk7 zaf)))) (za4 _)))))))
theorem zbU:zaq ["_law_window", "_law_length", "_law_row", "_law_cell_here", "_law_most", "_law_place", "_law_last", "_law_many"] ["_law_window", "_law_length", "_law_row", "_law_cell_here"] (zac zdn):=⟨rfl,rfl,rfl,by decide +kernel,rfl,by decide +kernel,by decide +kernel⟩
theorem zps (B:Blt mg) (h:HasFn K mg "_law_end" zdn) (zcO:DefV P w K mg base "_law_asked" 7 ["_law_window", "_law_length", "_law_row", "_law_place", "_law_last"] zbq) (za9:DefV P w K mg base "_law_mix" 1 ["_law_cell_here", "_law_k"] zbi) (zbN:DefV P w K mg base "_law_refused" 7 ["_law_window", "_law_place", "_law_last"] zaO):DefV P w K mg base "_law_end" 8 ["_law_window", "_law_length", "_law_row", "_law_cell_here"] zgy:=by
 refine DefV.of h zbU (fun _ _ _ _ _ _ us hl=>us4 us hl (fun _ _ _ _=>rfl)) (fun f cdv A outer s H E hr=>?_)
 exact (zae (zaw (i:=4) zbU.nd rfl (Or.inl rfl) (zax (zmR rfl) rfl B.min boot_min (zaa (vv 1) (zaa (zax zgI rfl B.len PySem.boot_len (zaa (vv 2) zaf)) zaf))))
  (zae (ze7 zag.passes rfl (ze2 (zdb false (zaa (zdE (zaa zad (zaa (zam (zbs false) (vv 4) zad) zaf))) (zaa (zdE (zaa zad (zaa zad zaf))) (zaa (zdE (zaa zad (zaa (zam zd4 (zam zd4 zad zad) (zam zdR (vv 3) zad)) zaf))) (zaa (zdE (zaa zad (zaa (vv 4) zaf))) (zaa (zdE (zaa (zam (zbs false) (vv 4) zad) (zaa (vv 4) zaf))) (zaa (zdE (zaa (zam (zbs false) (vv 4) zad) (zaa zhC zaf))) zaf)))))))) (zhV rfl (zbd (zaM (i:=5) zbU.nd rfl (Or.inl rfl)) (zbd (zaM (i:=6) zbU.nd rfl (Or.inl rfl)) zfh)))
   (zai (zdJ (ziF (ziG (zaW zag zbN (hr.mono (by first | decide | omega)) rfl (zaa (vv 0) (zaa (vv 5) (zaa (vv 6) zaf))))))
    (zai (za1 zk7))
    zbe)))
  (zae (zdJ (zbk (o_eq hr.units) (vv 2) (zdb false zaf) (za4 _))
   (zai (za1 (zaW zag zbN (hr.mono (by first | decide | omega)) rfl (zaa (vv 0) (zaa zad (zaa zhC zaf))))))
   zbe)
  (zae (ze7 zag.passes rfl (ze2 (zdb false (zaa zhC (zaa (vv 4) (zaa (zam (zbs false) zad (zam zdR (vv 3) (vv 4))) zaf))))) (zaM (i:=6) zbU.nd rfl (Or.inl rfl))
   (zae (zaw (i:=7) zbU.nd rfl (Or.inr rfl) (vv 4))
   (zae (zdJ (zbk zuS (vv 6) zhC (za4 _))
    (zai (zaw (i:=7) zbU.nd rfl (Or.inr rfl) (vv 6)))
    zbe)
   (zae (ze7 zag.passes rfl (ze2 (zam (zbs false) (zdb false (zaa zad (zaa (vv 7) (zaa (zam zig (zam (zbs false) (vv 7) zad) zad) zaf)))) (zn5 false ["_law_k"] [3,7] rfl (LcOk.of (zac zdn) ["_law_window", "_law_length", "_law_row", "_law_cell_here", "_law_most", "_law_place", "_law_last", "_law_many"] rfl rfl (by decide +kernel)) (zjX rfl B.range (zaa zad zaf)) (fun cl C s H fp=>⟨(zaM (i:=0) (show (["_law_k", "_law_cell_here", "_law_many"] : List Str).Nodup by decide +kernel) rfl (Or.inl rfl)),zj1,(zam (zbs false) zad (zam zdR (zwY (ps:=["_law_cell_here", "_law_k"]) za9.calm (by exact hr.mono (by first | decide | omega)) (by exact rfl) (zaa (vv 1) (zaa (vv 0) zaf))) (vv 2)))⟩)))) (zaM (i:=5) zbU.nd rfl (Or.inl rfl))
    (zai (zdJ (ziF (ziG (zaW zag zcO (hr.mono (by first | decide | omega)) rfl (zaa (vv 0) (zaa (vv 1) (zaa (vv 2) (zaa (vv 5) (zaa (vv 6) zaf))))))))
     (zai (za1 zk7))
     zbe)))
   (zai (zdJ (VW.vt (zlB (ziF (ziG (zaW zag zbN (hr.mono (by first | decide | omega)) rfl (zaa (vv 0) (zaa (zam (zbs false) (vv 7) zad) (zaa (vv 6) zaf)))))) (zkV (ziF (ziG (zaW zag zbN (hr.mono (by first | decide | omega)) rfl (zaa (vv 0) (zaa (zam zd4 zad (zam zdR (vv 3) zad)) (zaa (vv 6) zaf)))))))))
    (zai (za1 zk7))
    zbe))))))
  (zai (za1 zk7))))))
theorem zew:zaq ["_law_script", "_law_sort", "_law_length", "_law_block", "_law_keep", "_law_window", "_law_row", "_law_k", "_law_cell_here", "_law_j", "_law_most", "_law_last", "_law_many", "_law_place"] ["_law_script"] (zac zlc):=⟨rfl,rfl,rfl,by decide +kernel,rfl,by decide +kernel,by decide +kernel⟩
theorem zzR {f:Addr} {fd:FuncData} (B:Blt mg) (F:Fun K "law" "law" zlc f fd) (zcO:DefV P w K mg base "_law_asked" 7 ["_law_window", "_law_length", "_law_row", "_law_place", "_law_last"] zbq) (zbj:DefV P w K mg base "_law_cell" 2 ["_law_script", "_law_k"] zba) (zh7:DefV P w K mg base "_law_end" 8 ["_law_window", "_law_length", "_law_row", "_law_cell_here"] zgy) (za9:DefV P w K mg base "_law_mix" 1 ["_law_cell_here", "_law_k"] zbi) (zfw:DefV P w K mg base "_law_number" 1 ["_law_cell_here", "_law_sort"] zas) (zgf:DefV P w K mg base "_law_sizes" 1 ["_law_cell_here"] zbA) (zhi:DefV P w K mg base "_law_step" 3 ["_law_script", "_law_start", "_law_k"] zdv) (zf3:DefV P w K mg base "_law_steps" 3 ["_law_script", "_law_start", "_law_most"] zdA) (zls:zql P w K mg base "Window" 1 4 za3) (zge:zbv P w K mg base "Window" "put" 5 2 [] zdy):FnOk P w K mg base (CXE P w) 9 f fd ["_law_script"] (spV K 1 zmc):=by
 refine zuX F zew (fun f cdv A outer s H E hr=>?_)
 exact (zae (zaw (i:=1) zew.nd rfl (Or.inl rfl) (zam zdR (zaW zag zbj (hr.mono (by first | decide | omega)) rfl (zaa (vv 0) (zaa zad zaf))) zad))
  (zae (zy3 (zaW zag zgf (hr.mono (by first | decide | omega)) rfl (zaa (zaW zag zbj (hr.mono (by first | decide | omega)) rfl (zaa (vv 0) (zaa zad zaf))) zaf)) (zhV rfl (zbd (zaM (i:=2) zew.nd rfl (Or.inl rfl)) (zbd (zaM (i:=3) zew.nd rfl (Or.inl rfl)) (zbd (zaM (i:=4) zew.nd rfl (Or.inl rfl)) zfh)))))
  (zae (zaw (i:=5) zew.nd rfl (Or.inl rfl) (zwn zls (hr.mono (by first | decide | omega)) rfl (zaa (vv 2) (zaa (vv 3) (zaa (vv 4) zaf)))))
  (zae (zaw (i:=6) zew.nd rfl (Or.inl rfl) (zdb true zaf))
  (zae (ze7 zag.passes rfl (zjX rfl B.range (zaa (zaW zag zf3 (hr.mono (by first | decide | omega)) rfl (zaa (vv 0) (zaa zad (zaa zad zaf)))) zaf)) (zaM (i:=7) zew.nd rfl (Or.inl rfl))
   (zae (zaw (i:=8) zew.nd rfl (Or.inl rfl) (zaW zag zhi (hr.mono (by first | decide | omega)) rfl (zaa (vv 0) (zaa zad (zaa (vv 7) zaf)))))
   (zae (ze7 zag.passes rfl (zjX rfl B.range (zaa (zam (zbs false) zad (zam zdR (vv 8) zad)) zaf)) (zaM (i:=9) zew.nd rfl (Or.inl rfl))
    (zae (zdN (zlh PySem.F.plainAttrs_list PySem.F.slot_list_append PySem.F.type_list_append zeo zfH (vv 6) (zaa (zaW zag zfw (hr.mono (by first | decide | omega)) rfl (zaa (zaW zag za9 (hr.mono (by first | decide | omega)) rfl (zaa (vv 8) (zaa (zam (zbs false) zad (vv 9)) zaf))) (zaa (vv 1) zaf))) zaf)))
    (zai (zdN (zfo zag (TabM.cons zge (hr.mono (by first | decide | omega)) TabM.nil) (vv 5) (zaa (zcn (vv 6) (zsB zad) (fun _ _=>rfl)) zaf))))))
   (zae (zaw (i:=10) zew.nd rfl (Or.inl rfl) (zax (zmR rfl) rfl B.min boot_min (zaa (vv 2) (zaa (zax zgI rfl B.len PySem.boot_len (zaa (vv 6) zaf)) zaf))))
   (zae (zaw (i:=11) zew.nd rfl (Or.inl rfl) (zcn (zdb false (zaa zhC (zaa (vv 10) (zaa (zam (zbs false) zad (zam zdR (zaW zag za9 (hr.mono (by first | decide | omega)) rfl (zaa (vv 8) (zaa zad zaf))) (vv 10))) zaf)))) (zam zdR (zam zig (vv 8) zad) zad) (fun _ _=>rfl)))
   (zae (zaw (i:=12) zew.nd rfl (Or.inl rfl) (vv 10))
   (zae (zdJ (zbk zuS (vv 11) zhC (za4 _))
    (zai (zaw (i:=12) zew.nd rfl (Or.inl rfl) (vv 11)))
    zbe)
   (zae (zaw (i:=13) zew.nd rfl (Or.inl rfl) (zam (zbs false) zad (zam zdR (zaW zag za9 (hr.mono (by first | decide | omega)) rfl (zaa (vv 8) (zaa zad zaf))) (vv 12))))
   (zai (zdJ (VW.vt (zyn (zbk (o_eq hr.units) (zam zdR (vv 7) zad) zad (za4 _)) (zw3 (ziF (ziG (zaW zag zcO (hr.mono (by first | decide | omega)) rfl (zaa (vv 5) (zaa (vv 2) (zaa (vv 6) (zaa (vv 13) (zaa (vv 11) zaf)))))))))))
    (zai (za1 zk7))
    zbe))))))))))
  (zai (za1 (zaW zag zh7 (hr.mono (by first | decide | omega)) rfl (zaa (vv 5) (zaa (vv 2) (zaa (vv 6) (zaa (zaW zag zbj (hr.mono (by first | decide | omega)) rfl (zaa (vv 0) (zaa zad zaf))) zaf))))))))))))
end
theorem all_mk {l:PySem.W.OpenLaw} {w:World} {K:PySem.W.Frag} {h:Heap} {mg:Str→Option Value} {fa f0 f1 f2 f3 f4 f5 f6 f7 f8 f9 f10 f11 f12 f13 f14 f15 f16 f17 f18 f19 f20 f21 f22:Addr} (X:K.In h) (G:h.Ns mainGlobals mg) (hfa:mg "law" = some (.ref fa))
  {od0 an0 od1 an1 od2 an2 od3 an3 od4 an4 od5 an5 od6 an6 od7 an7 od8 an8 od9 an9 od10 an10 od11 an11 od12 an12 od13 an13 od14 an14 od15 an15 od16 an16 od17 an17 od18 an18 od19 an19 od20 an20 od21 an21 od22 an22:Option Addr} {sl0 sl1 sl2 sl3 sl4 sl5 sl6 sl7 sl8 sl9 sl10 sl11 sl12 sl13 sl14 sl15 sl16 sl17 sl18 sl19 sl20 sl21 sl22:Array (Option Value)} {oc0 kV0 dc0 pm0 cd0 ct0 oc1 kV1 dc1 pm1 cd1 ct1 oc2 kV2 dc2 pm2 cd2 ct2 oc3 kV3 dc3 pm3 cd3 ct3 oc4 kV4 dc4 pm4 cd4 ct4 oc5 kV5 dc5 pm5 cd5 ct5 oc6 kV6 dc6 pm6 cd6 ct6 oc7 kV7 dc7 pm7 cd7 ct7 oc8 kV8 dc8 pm8 cd8 ct8 oc9 kV9 dc9 pm9 cd9 ct9 oc10 kV10 dc10 pm10 cd10 ct10 oc11 kV11 dc11 pm11 cd11 ct11 oc12 kV12 dc12 pm12 cd12 ct12 oc13 kV13 dc13 pm13 cd13 ct13 oc14 kV14 dc14 pm14 cd14 ct14 oc15 kV15 dc15 pm15 cd15 ct15 oc16 kV16 dc16 pm16 cd16 ct16 oc17 kV17 dc17 pm17 cd17 ct17 oc18 kV18 dc18 pm18 cd18 ct18 oc19 kV19 dc19 pm19 cd19 ct19 oc20 kV20 dc20 pm20 cd20 ct20 oc21 kV21 dc21 pm21 cd21 ct21 oc22 kV22 dc22 pm22 cd22 ct22:Value}
  (a0:PySem.W.nsIn K mainGlobals "near_enough" = some (some (.ref f0))) (l0:K.lookup f0=some ⟨oc0,od0, .func (PySem.W.fnOf "near_enough" "near_enough" (zar zb5) (zaj zb5) (zac zb5) .none kV0 dc0 pm0 an0 cd0 ct0),sl0⟩) (c0:PySem.W.codeIn K cd0 "near_enough" = true) (k0:PySem.W.keepIn K (.ref f0)=true)
  (a1:PySem.W.nsIn K mainGlobals "look_row" = some (some (.ref f1))) (l1:K.lookup f1=some ⟨oc1,od1, .func (PySem.W.fnOf "look_row" "look_row" (zar zd7) (zaj zd7) (zac zd7) .none kV1 dc1 pm1 an1 cd1 ct1),sl1⟩) (c1:PySem.W.codeIn K cd1 "look_row" = true) (k1:PySem.W.keepIn K (.ref f1)=true)
  (a2:PySem.W.nsIn K mainGlobals "number_at" = some (some (.ref f2))) (l2:K.lookup f2=some ⟨oc2,od2, .func (PySem.W.fnOf "number_at" "number_at" (zar zdg) (zaj zdg) (zac zdg) .none kV2 dc2 pm2 an2 cd2 ct2),sl2⟩) (c2:PySem.W.codeIn K cd2 "number_at" = true) (k2:PySem.W.keepIn K (.ref f2)=true)
  (a3:PySem.W.nsIn K mainGlobals "packed" = some (some (.ref f3))) (l3:K.lookup f3=some ⟨oc3,od3, .func (PySem.W.fnOf "packed" "packed" (zar zfu) (zaj zfu) (zac zfu) .none kV3 dc3 pm3 an3 cd3 ct3),sl3⟩) (c3:PySem.W.codeIn K cd3 "packed" = true) (k3:PySem.W.keepIn K (.ref f3)=true)
  (a4:PySem.W.nsIn K mainGlobals "places_of" = some (some (.ref f4))) (l4:K.lookup f4=some ⟨oc4,od4, .func (PySem.W.fnOf "places_of" "places_of" (zar zdt) (zaj zdt) (zac zdt) .none kV4 dc4 pm4 an4 cd4 ct4),sl4⟩) (c4:PySem.W.codeIn K cd4 "places_of" = true) (k4:PySem.W.keepIn K (.ref f4)=true)
  (a5:PySem.W.nsIn K mainGlobals "of_row" = some (some (.ref f5))) (l5:K.lookup f5=some ⟨oc5,od5, .func (PySem.W.fnOf "of_row" "of_row" (zar zgx) (zaj zgx) (zac zgx) .none kV5 dc5 pm5 an5 cd5 ct5),sl5⟩) (c5:PySem.W.codeIn K cd5 "of_row" = true) (k5:PySem.W.keepIn K (.ref f5)=true)
  (a6:PySem.W.nsIn K mainGlobals "bounds_ahead" = some (some (.ref f6))) (l6:K.lookup f6=some ⟨oc6,od6, .func (PySem.W.fnOf "bounds_ahead" "bounds_ahead" (zar zbK) (zaj zbK) (zac zbK) .none kV6 dc6 pm6 an6 cd6 ct6),sl6⟩) (c6:PySem.W.codeIn K cd6 "bounds_ahead" = true) (k6:PySem.W.keepIn K (.ref f6)=true)
  (a7:PySem.W.nsIn K mainGlobals "thinned" = some (some (.ref f7))) (l7:K.lookup f7=some ⟨oc7,od7, .func (PySem.W.fnOf "thinned" "thinned" (zar ze4) (zaj ze4) (zac ze4) .none kV7 dc7 pm7 an7 cd7 ct7),sl7⟩) (c7:PySem.W.codeIn K cd7 "thinned" = true) (k7:PySem.W.keepIn K (.ref f7)=true)
  (a8:PySem.W.nsIn K mainGlobals "kept_entries" = some (some (.ref f8))) (l8:K.lookup f8=some ⟨oc8,od8, .func (PySem.W.fnOf "kept_entries" "kept_entries" (zar zbO) (zaj zbO) (zac zbO) .none kV8 dc8 pm8 an8 cd8 ct8),sl8⟩) (c8:PySem.W.codeIn K cd8 "kept_entries" = true) (k8:PySem.W.keepIn K (.ref f8)=true)
  (a9:PySem.W.nsIn K mainGlobals "pouch_of" = some (some (.ref f9))) (l9:K.lookup f9=some ⟨oc9,od9, .func (PySem.W.fnOf "pouch_of" "pouch_of" (zar zdj) (zaj zdj) (zac zdj) .none kV9 dc9 pm9 an9 cd9 ct9),sl9⟩) (c9:PySem.W.codeIn K cd9 "pouch_of" = true) (k9:PySem.W.keepIn K (.ref f9)=true)
  (a10:PySem.W.nsIn K mainGlobals "beyond" = some (some (.ref f10))) (l10:K.lookup f10=some ⟨oc10,od10, .func (PySem.W.fnOf "beyond" "beyond" (zar zfg) (zaj zfg) (zac zfg) .none kV10 dc10 pm10 an10 cd10 ct10),sl10⟩) (c10:PySem.W.codeIn K cd10 "beyond" = true) (k10:PySem.W.keepIn K (.ref f10)=true)
  (a11:PySem.W.nsIn K mainGlobals "midway" = some (some (.ref f11))) (l11:K.lookup f11=some ⟨oc11,od11, .func (PySem.W.fnOf "midway" "midway" (zar zgF) (zaj zgF) (zac zgF) .none kV11 dc11 pm11 an11 cd11 ct11),sl11⟩) (c11:PySem.W.codeIn K cd11 "midway" = true) (k11:PySem.W.keepIn K (.ref f11)=true)
  (a12:PySem.W.nsIn K mainGlobals "_law_mix" = some (some (.ref f12))) (l12:K.lookup f12=some ⟨oc12,od12, .func (PySem.W.fnOf "_law_mix" "_law_mix" (zar zd8) (zaj zd8) (zac zd8) .none kV12 dc12 pm12 an12 cd12 ct12),sl12⟩) (c12:PySem.W.codeIn K cd12 "_law_mix" = true) (k12:PySem.W.keepIn K (.ref f12)=true)
  (a13:PySem.W.nsIn K mainGlobals "_law_cell" = some (some (.ref f13))) (l13:K.lookup f13=some ⟨oc13,od13, .func (PySem.W.fnOf "_law_cell" "_law_cell" (zar zdi) (zaj zdi) (zac zdi) .none kV13 dc13 pm13 an13 cd13 ct13),sl13⟩) (c13:PySem.W.codeIn K cd13 "_law_cell" = true) (k13:PySem.W.keepIn K (.ref f13)=true)
  (a14:PySem.W.nsIn K mainGlobals "_law_number" = some (some (.ref f14))) (l14:K.lookup f14=some ⟨oc14,od14, .func (PySem.W.fnOf "_law_number" "_law_number" (zar zb8) (zaj zb8) (zac zb8) .none kV14 dc14 pm14 an14 cd14 ct14),sl14⟩) (c14:PySem.W.codeIn K cd14 "_law_number" = true) (k14:PySem.W.keepIn K (.ref f14)=true)
  (a15:PySem.W.nsIn K mainGlobals "_law_steps" = some (some (.ref f15))) (l15:K.lookup f15=some ⟨oc15,od15, .func (PySem.W.fnOf "_law_steps" "_law_steps" (zar zcK) (zaj zcK) (zac zcK) .none kV15 dc15 pm15 an15 cd15 ct15),sl15⟩) (c15:PySem.W.codeIn K cd15 "_law_steps" = true) (k15:PySem.W.keepIn K (.ref f15)=true)
  (a16:PySem.W.nsIn K mainGlobals "_law_step" = some (some (.ref f16))) (l16:K.lookup f16=some ⟨oc16,od16, .func (PySem.W.fnOf "_law_step" "_law_step" (zar zdk) (zaj zdk) (zac zdk) .none kV16 dc16 pm16 an16 cd16 ct16),sl16⟩) (c16:PySem.W.codeIn K cd16 "_law_step" = true) (k16:PySem.W.keepIn K (.ref f16)=true)
  (a17:PySem.W.nsIn K mainGlobals "_law_whole" = some (some (.ref f17))) (l17:K.lookup f17=some ⟨oc17,od17, .func (PySem.W.fnOf "_law_whole" "_law_whole" (zar zcM) (zaj zcM) (zac zcM) .none kV17 dc17 pm17 an17 cd17 ct17),sl17⟩) (c17:PySem.W.codeIn K cd17 "_law_whole" = true) (k17:PySem.W.keepIn K (.ref f17)=true)
  (a18:PySem.W.nsIn K mainGlobals "_law_sizes" = some (some (.ref f18))) (l18:K.lookup f18=some ⟨oc18,od18, .func (PySem.W.fnOf "_law_sizes" "_law_sizes" (zar zcP) (zaj zcP) (zac zcP) .none kV18 dc18 pm18 an18 cd18 ct18),sl18⟩) (c18:PySem.W.codeIn K cd18 "_law_sizes" = true) (k18:PySem.W.keepIn K (.ref f18)=true)
  (a19:PySem.W.nsIn K mainGlobals "_law_asked" = some (some (.ref f19))) (l19:K.lookup f19=some ⟨oc19,od19, .func (PySem.W.fnOf "_law_asked" "_law_asked" (zar zbC) (zaj zbC) (zac zbC) .none kV19 dc19 pm19 an19 cd19 ct19),sl19⟩) (c19:PySem.W.codeIn K cd19 "_law_asked" = true) (k19:PySem.W.keepIn K (.ref f19)=true)
  (a20:PySem.W.nsIn K mainGlobals "_law_refused" = some (some (.ref f20))) (l20:K.lookup f20=some ⟨oc20,od20, .func (PySem.W.fnOf "_law_refused" "_law_refused" (zar zbM) (zaj zbM) (zac zbM) .none kV20 dc20 pm20 an20 cd20 ct20),sl20⟩) (c20:PySem.W.codeIn K cd20 "_law_refused" = true) (k20:PySem.W.keepIn K (.ref f20)=true)
  (a21:PySem.W.nsIn K mainGlobals "_law_end" = some (some (.ref f21))) (l21:K.lookup f21=some ⟨oc21,od21, .func (PySem.W.fnOf "_law_end" "_law_end" (zar zdn) (zaj zdn) (zac zdn) .none kV21 dc21 pm21 an21 cd21 ct21),sl21⟩) (c21:PySem.W.codeIn K cd21 "_law_end" = true) (k21:PySem.W.keepIn K (.ref f21)=true)
  (a22:PySem.W.nsIn K mainGlobals "law" = some (some (.ref f22))) (l22:K.lookup f22=some ⟨oc22,od22, .func (PySem.W.fnOf "law" "law" (zar zlc) (zaj zlc) (zac zlc) .none kV22 dc22 pm22 an22 cd22 ct22),sl22⟩) (c22:PySem.W.codeIn K cd22 "law" = true) (k22:PySem.W.keepIn K (.ref f22)=true)
  (zgk:PySem.W.nsIn K mainGlobals "ValueError" = some none)
  (zq5:PySem.W.nsIn K mainGlobals "bool" = some none)
  (zhd:PySem.W.nsIn K mainGlobals "enumerate" = some none)
  (zv8:PySem.W.nsIn K mainGlobals "int" = some none)
  (zgu:PySem.W.nsIn K mainGlobals "isinstance" = some none)
  (zw6:PySem.W.nsIn K mainGlobals "len" = some none)
  (zxb:PySem.W.nsIn K mainGlobals "max" = some none)
  (zwh:PySem.W.nsIn K mainGlobals "min" = some none)
  (znS:PySem.W.nsIn K mainGlobals "range" = some none)
  (zlq:PySem.W.nsIn K mainGlobals "sorted" = some none)
  (zwE:PySem.W.nsIn K mainGlobals "sum" = some none)
  {zre:Tok} (zj2:PySem.W.nsIn K mainGlobals "LONGEST" = some (some (.int 1000000000 zre)))
  {zbb:Addr} (zcD:PySem.W.nsIn K mainGlobals "RankError" = some (some (.ref zbb)))
  {zbp:Addr} (zbX:PySem.W.nsIn K mainGlobals "NoRow" = some (some (.ref zbp)))
  {zaE:Addr} (zaQ:PySem.W.nsIn K mainGlobals "NoPlace" = some (some (.ref zaE)))
  {zbG:Addr} (zee:PySem.W.nsIn K mainGlobals "NoPouch" = some (some (.ref zbG)))
  {zcs:Addr} (zfp:PySem.W.nsIn K mainGlobals "NoSize" = some (some (.ref zcs)))
  {zdS:Addr} (zhf:PySem.W.nsIn K mainGlobals "Wrong" = some (some (.ref zdS)))
  {zbH:Addr} (zeD:PySem.W.nsIn K mainGlobals "NoTimes" = some (some (.ref zbH)))
  {zcw:Addr} (zfk:PySem.W.nsIn K mainGlobals "Unlike" = some (some (.ref zcw)))
  {zcv:Addr} (zft:PySem.W.nsIn K mainGlobals "NoText" = some (some (.ref zcv)))
  {zmp zog zn7 zmv zna zkd zmG zlJ zmz zlT zmd zmX zmf znb zl8 zmQ} (zhe:K.lookup zbb=some (excClassObj zmp zog zbb zn7 zmv zna zkd zmG zlJ zmz zlT zmd zmX zmf znb zl8 zmQ "ValueError.__new__"))
  (zfY:PySem.W.findIn K (.ref zbb) "__getattribute__" = some (some (.builtin "BaseException.__getattribute__"))) (zf4:PySem.W.findIn K (.ref zbb) "__getattr__" = some none) (zgc:PySem.W.findIn K (.ref zbb) "__class__" = some (some (.builtin "object.__class__"))) (zgo:PySem.W.subIn K (.ref zbb) (.type "BaseException")=some true) (zf8:PySem.W.subIn K (.ref zbb) (.type "object")=some true)
  {ztW zvo zv4 zt3 zuv zpl zuD zso ztj zrT zuy zuO zuI ztO zuJ zud} (znh:K.lookup zbp=some (excClassObj ztW zvo zbp zv4 zt3 zuv zpl zuD zso ztj zrT zuy zuO zuI ztO zuJ zud "ValueError.__new__"))
  (zlO:PySem.W.findIn K (.ref zbp) "__getattribute__" = some (some (.builtin "BaseException.__getattribute__"))) (zln:PySem.W.findIn K (.ref zbp) "__getattr__" = some none) (zlL:PySem.W.findIn K (.ref zbp) "__class__" = some (some (.builtin "object.__class__"))) (zkZ:PySem.W.subIn K (.ref zbp) (.type "BaseException")=some true) (zl4:PySem.W.subIn K (.ref zbp) (.type "object")=some true)
  {zpR zrC zsE zqo zpv zmk zpO zoa zp3 znt zp4 zpz zqf zpP zpN zpV} (zju:K.lookup zaE=some (excClassObj zpR zrC zaE zsE zqo zpv zmk zpO zoa zp3 znt zp4 zpz zqf zpP zpN zpV "ValueError.__new__"))
  (zio:PySem.W.findIn K (.ref zaE) "__getattribute__" = some (some (.builtin "BaseException.__getattribute__"))) (zhY:PySem.W.findIn K (.ref zaE) "__getattr__" = some none) (ziv:PySem.W.findIn K (.ref zaE) "__class__" = some (some (.builtin "object.__class__"))) (zh8:PySem.W.subIn K (.ref zaE) (.type "BaseException")=some true) (zh5:PySem.W.subIn K (.ref zaE) (.type "object")=some true)
  {zpY zsH zrI zpr zpQ zmy zp0 znL zpn znl zp7 zpi zpf zp1 zqi zpL} (zj3:K.lookup zbG=some (excClassObj zpY zsH zbG zrI zpr zpQ zmy zp0 znL zpn znl zp7 zpi zpf zp1 zqi zpL "ValueError.__new__"))
  (zix:PySem.W.findIn K (.ref zbG) "__getattribute__" = some (some (.builtin "BaseException.__getattribute__"))) (zif:PySem.W.findIn K (.ref zbG) "__getattr__" = some none) (zh2:PySem.W.findIn K (.ref zbG) "__class__" = some (some (.builtin "object.__class__"))) (ziu:PySem.W.subIn K (.ref zbG) (.type "BaseException")=some true) (zib:PySem.W.subIn K (.ref zbG) (.type "object")=some true)
  {zqL zuh ztp zsu zqK zon zsC zpx zsg zpq zsQ zsp zrV zrA zsi zrw} (zl3:K.lookup zcs=some (excClassObj zqL zuh zcs ztp zsu zqK zon zsC zpx zsg zpq zsQ zsp zrV zrA zsi zrw "ValueError.__new__"))
  (zka:PySem.W.findIn K (.ref zcs) "__getattribute__" = some (some (.builtin "BaseException.__getattribute__"))) (zji:PySem.W.findIn K (.ref zcs) "__getattr__" = some none) (zkb:PySem.W.findIn K (.ref zcs) "__class__" = some (some (.builtin "object.__class__"))) (zjj:PySem.W.subIn K (.ref zcs) (.type "BaseException")=some true) (zjn:PySem.W.subIn K (.ref zcs) (.type "object")=some true)
  {ztb zwV zwi zs3 zuk zqj ztv zsl ztK zq3 ztC zun zug ztq zs6 zur} (znW:K.lookup zdS=some (excClassObj ztb zwV zdS zwi zs3 zuk zqj ztv zsl ztK zq3 ztC zun zug ztq zs6 zur "ValueError.__new__"))
  (zld:PySem.W.findIn K (.ref zdS) "__getattribute__" = some (some (.builtin "BaseException.__getattribute__"))) (zlv:PySem.W.findIn K (.ref zdS) "__getattr__" = some none) (zl2:PySem.W.findIn K (.ref zdS) "__class__" = some (some (.builtin "object.__class__"))) (zlK:PySem.W.subIn K (.ref zdS) (.type "BaseException")=some true) (zlY:PySem.W.subIn K (.ref zdS) (.type "object")=some true)
  {zpF zqP zs0 zpo zp9 zmS zpe zno zqb znp zpm zpC zqp zpp zpA zpt} (zje:K.lookup zbH=some (excClassObj zpF zqP zbH zs0 zpo zp9 zmS zpe zno zqb znp zpm zpC zqp zpp zpA zpt "ValueError.__new__"))
  (zia:PySem.W.findIn K (.ref zbH) "__getattribute__" = some (some (.builtin "BaseException.__getattribute__"))) (zh4:PySem.W.findIn K (.ref zbH) "__getattr__" = some none) (zil:PySem.W.findIn K (.ref zbH) "__class__" = some (some (.builtin "object.__class__"))) (ziq:PySem.W.subIn K (.ref zbH) (.type "BaseException")=some true) (zir:PySem.W.subIn K (.ref zbH) (.type "object")=some true)
  {zsn ztg ztd zrP zrO zom zrr zpS zq7 zqr zqu zrh zrY zqU zq2 zsM} (zlC:K.lookup zcw=some (excClassObj zsn ztg zcw ztd zrP zrO zom zrr zpS zq7 zqr zqu zrh zrY zqU zq2 zsM "ValueError.__new__"))
  (zjh:PySem.W.findIn K (.ref zcw) "__getattribute__" = some (some (.builtin "BaseException.__getattribute__"))) (zj0:PySem.W.findIn K (.ref zcw) "__getattr__" = some none) (zjD:PySem.W.findIn K (.ref zcw) "__class__" = some (some (.builtin "object.__class__"))) (zjc:PySem.W.subIn K (.ref zcw) (.type "BaseException")=some true) (zjL:PySem.W.subIn K (.ref zcw) (.type "object")=some true)
  {zro zus ztD zrq zrU znP zsk zpy zq0 zqk zsb zqZ zsG zrv zsD zsZ} (zk2:K.lookup zcv=some (excClassObj zro zus zcv ztD zrq zrU znP zsk zpy zq0 zqk zsb zqZ zsG zrv zsD zsZ "ValueError.__new__"))
  (zjB:PySem.W.findIn K (.ref zcv) "__getattribute__" = some (some (.builtin "BaseException.__getattribute__"))) (zjr:PySem.W.findIn K (.ref zcv) "__getattr__" = some none) (zjs:PySem.W.findIn K (.ref zcv) "__class__" = some (some (.builtin "object.__class__"))) (zjR:PySem.W.subIn K (.ref zcv) (.type "BaseException")=some true) (zjv:PySem.W.subIn K (.ref zcv) (.type "object")=some true)
  (zht:PySem.W.excIn K zaE bmVE "ValueError.__new__" = true)
  (zik:PySem.W.subIn K (.ref zaE) (.type "ValueError")=some true)
  (zbS:PySem.W.subIn K (.ref zaE) (.ref zbb)=some true)
  (zdc:PySem.W.subIn K (.ref zaE) (.ref zbp)=some false)
  (zcG:PySem.W.subIn K (.ref zaE) (.ref zaE)=some true)
  (zcJ:PySem.W.subIn K (.ref zaE) (.ref zbG)=some false)
  (zc5:PySem.W.subIn K (.ref zaE) (.ref zcs)=some false)
  (zdf:PySem.W.subIn K (.ref zaE) (.ref zdS)=some false)
  (zcA:PySem.W.subIn K (.ref zaE) (.ref zbH)=some false)
  (zcW:PySem.W.subIn K (.ref zaE) (.ref zcw)=some false)
  (zcY:PySem.W.subIn K (.ref zaE) (.ref zcv)=some false)
  (zlA:PySem.W.subIn K (.ref zbp) (.type "ValueError")=some true)
  (zcF:PySem.W.subIn K (.ref zbp) (.ref zbb)=some true)
  (zem:PySem.W.subIn K (.ref zbp) (.ref zbp)=some true)
  (zdo:PySem.W.subIn K (.ref zbp) (.ref zaE)=some false)
  (zdr:PySem.W.subIn K (.ref zbp) (.ref zbG)=some false)
  (zdM:PySem.W.subIn K (.ref zbp) (.ref zcs)=some false)
  (zej:PySem.W.subIn K (.ref zbp) (.ref zdS)=some false)
  (zdq:PySem.W.subIn K (.ref zbp) (.ref zbH)=some false)
  (zdU:PySem.W.subIn K (.ref zbp) (.ref zcw)=some false)
  (zdK:PySem.W.subIn K (.ref zbp) (.ref zcv)=some false)
  {zaF:Addr} (za0:PySem.W.nsIn K mainGlobals "Window" = some (some (.ref zaF)))
  {zbu:Addr} {zg8 zhq:Option Addr} {zhn:Array (Option Value)} {zhj zhs zg7 zhv zeC zhb:Value}
  (zcT:PySem.W.findIn K (.ref zaF) "__init__" = some (some (.ref zbu)))
  (zcU:K.lookup zbu=some ⟨zhj,zg8, .func (PySem.W.fnOf "__init__" "Window.__init__" (zar zaB) (zaj zaB) (zac zaB) .none zhs zg7 zhv zhq zeC zhb),zhn⟩) (zcX:PySem.W.codeIn K zeC "Window.__init__" = true) (zc2:PySem.W.keepIn K (.ref zbu)=true) (zcZ:PySem.W.isFn K (.ref zbu)=true)
  {zcR:Addr} {zky zkC:Option Addr} {zkI:Array (Option Value)} {zkr zku zkn zkG zg1 zkq:Value}
  (zfB:PySem.W.findIn K (.ref zaF) "put" = some (some (.ref zcR)))
  (zfE:K.lookup zcR=some ⟨zkr,zky, .func (PySem.W.fnOf "put" "Window.put" (zar zcN) (zaj zcN) (zac zcN) .none zku zkn zkG zkC zg1 zkq),zkI⟩) (zfA:PySem.W.codeIn K zg1 "Window.put" = true) (zd6:PySem.W.keepIn K (.ref zcR)=true) (zfd:PySem.W.isFn K (.ref zcR)=true)
  {za6:Addr} {zfO zfR:Option Addr} {zfQ:Array (Option Value)} {zfN zfP zfK zfS zc9 zfM:Value}
  (zbR:PySem.W.findIn K (.ref zaF) "drop_oldest" = some (some (.ref za6)))
  (zb0:K.lookup za6=some ⟨zfN,zfO, .func (PySem.W.fnOf "drop_oldest" "Window.drop_oldest" (zar zaT) (zaj zaT) (zac zaT) .none zfP zfK zfS zfR zc9 zfM),zfQ⟩) (zb1:PySem.W.codeIn K zc9 "Window.drop_oldest" = true) (zbr:PySem.W.keepIn K (.ref za6)=true) (zbV:PySem.W.isFn K (.ref za6)=true)
  {zbw:Addr} {zf2:Value} {zfX:Option Addr} {zga:Nat} {zfZ:Array (Option Value)}
  {zaU:Addr} {zfW zgp:Option Addr} {zgb:Array (Option Value)} {zf6 zgh zgd zf0 zdH zf1:Value}
  (zcd:PySem.W.findIn K (.ref zaF) "so_manieth" = some (some (.ref zaU)))
  (zcg:K.lookup zaU=some ⟨zf6,zfW, .func (PySem.W.fnOf "so_manieth" "Window.so_manieth" (zar zau) (zaj zau) (zac zau) (.ref zbw) zgh zgd zf0 zgp zdH zf1),zgb⟩) (zcc:PySem.W.codeIn K zdH "Window.so_manieth" = true) (zcb:PySem.W.keepIn K (.ref zaU)=true) (zck:PySem.W.isFn K (.ref zaU)=true)
  (zci:K.lookup zbw=some ⟨zf2,zfX, .seq #[.none] zga,zfZ⟩)
  {zdZ:Addr} {zkp:Value} {zkm:Option Addr} {zkg:Nat} {zkt:Array (Option Value)}
  {zb4:Addr} {zkc zks:Option Addr} {zkB:Array (Option Value)} {zko zkF zkE zkw zgZ zkl:Value}
  (zfc:PySem.W.findIn K (.ref zaF) "off" = some (some (.ref zb4)))
  (zfa:K.lookup zb4=some ⟨zko,zkc, .func (PySem.W.fnOf "off" "Window.off" (zar zaX) (zaj zaX) (zac zaX) (.ref zdZ) zkF zkE zkw zks zgZ zkl),zkB⟩) (zfj:PySem.W.codeIn K zgZ "Window.off" = true) (zfF:PySem.W.keepIn K (.ref zb4)=true) (zfC:PySem.W.isFn K (.ref zb4)=true)
  (zfD:K.lookup zdZ=some ⟨zkp,zkm, .seq #[.none] zkg,zkt⟩)
  {zbm:Addr} {zgS zgR:Option Addr} {zgJ:Array (Option Value)} {zgL zgW zgO zgM zdX zgH:Value}
  (zcI:PySem.W.findIn K (.ref zaF) "look_last" = some (some (.ref zbm)))
  (zcx:K.lookup zbm=some ⟨zgL,zgS, .func (PySem.W.fnOf "look_last" "Window.look_last" (zar za8) (zaj za8) (zac za8) .none zgW zgO zgM zgR zdX zgH),zgJ⟩) (zcy:PySem.W.codeIn K zdX "Window.look_last" = true) (zbE:PySem.W.keepIn K (.ref zbm)=true) (zcB:PySem.W.isFn K (.ref zbm)=true)
  {zbW:Addr} {ziL ziR:Option Addr} {ziO:Array (Option Value)} {ziP ziK ziJ ziQ zfJ ziM:Value}
  (zey:PySem.W.findIn K (.ref zaF) "parts" = some (some (.ref zbW)))
  (zei:K.lookup zbW=some ⟨ziP,ziL, .func (PySem.W.fnOf "parts" "Window.parts" (zar zbL) (zaj zbL) (zac zbL) .none ziK ziJ ziQ ziR zfJ ziM),ziO⟩) (zen:PySem.W.codeIn K zfJ "Window.parts" = true) (zcV:PySem.W.keepIn K (.ref zbW)=true) (zet:PySem.W.isFn K (.ref zbW)=true)
  (zjm:PySem.W.plainGet K zaF Str.empty=true) (zjT:PySem.W.hasDictIn K zaF=true) (zjK:PySem.W.plainOver K zaF=true) (zjO:PySem.W.findIn K (.ref zaF) "__setattr__" = some (some (.builtin "object.__setattr__"))) (zjy:PySem.W.makesIn K zaF=true) (zjx:PySem.W.keepIn K (.ref zaF)=true)
  (zel:PySem.W.findIn K (.ref zaF) "block" = some none)
  (zeY:PySem.W.findIn K (.ref zaF) "full" = some none)
  (zeV:PySem.W.findIn K (.ref zaF) "keep" = some none)
  (zeT:PySem.W.findIn K (.ref zaF) "many" = some none)
  (zdT:PySem.W.findIn K (.ref zaF) "newest" = some none)
  (zeE:PySem.W.findIn K (.ref zaF) "reach" = some none)
  : ∃ fd:FuncData,(∀ (s:Shared) (v:Value),BindsTo s fd ⟨[v],[]⟩ [("_law_script",v)])∧∀ base:Heap,K.In base→base.Ns mainGlobals mg→FnOk l.prog w K mg base CX0 9 fa fd ["_law_script"] (zup K):=by
 have e:=hfa.symm.trans (PySem.W.mg_of X G a22)
 cases e
 have zma:=PySem.W.mg_none_of X G zgk
 have y_bool:=PySem.W.mg_none_of X G zq5
 have znK:=PySem.W.mg_none_of X G zhd
 have zzq:=PySem.W.mg_none_of X G zv8
 have zm2:=PySem.W.mg_none_of X G zgu
 have zzY:=PySem.W.mg_none_of X G zw6
 have zzr:=PySem.W.mg_none_of X G zxb
 have zzM:=PySem.W.mg_none_of X G zwh
 have zwZ:=PySem.W.mg_none_of X G znS
 have ztS:=PySem.W.mg_none_of X G zlq
 have zzz:=PySem.W.mg_none_of X G zwE
 have B:Blt mg:=⟨zma,y_bool,znK,zzq,zm2,zzY,zzr,zzM,zwZ,ztS,zzz⟩
 have zjf:∃ t,mg "LONGEST" = some (.int 1000000000 t):=⟨_,PySem.W.mg_of X G zj2⟩
 have ziB:XC K zbb:=⟨⟨_,_,_,_,_,_,_,_,_,_,_,_,_,_,_,_,zhe⟩,zfY,zf4,zgc,zgo,zf8⟩
 have zhx:ClsN K mg "RankError":=⟨zbb,ziB,PySem.W.mg_of X G zcD,zcD⟩
 have zoX:XC K zbp:=⟨⟨_,_,_,_,_,_,_,_,_,_,_,_,_,_,_,_,znh⟩,zlO,zln,zlL,zkZ,zl4⟩
 have znj:ClsN K mg "NoRow":=⟨zbp,zoX,PySem.W.mg_of X G zbX,zbX⟩
 have zkQ:XC K zaE:=⟨⟨_,_,_,_,_,_,_,_,_,_,_,_,_,_,_,_,zju⟩,zio,zhY,ziv,zh8,zh5⟩
 have zjg:ClsN K mg "NoPlace":=⟨zaE,zkQ,PySem.W.mg_of X G zaQ,zaQ⟩
 have zkL:XC K zbG:=⟨⟨_,_,_,_,_,_,_,_,_,_,_,_,_,_,_,_,zj3⟩,zix,zif,zh2,ziu,zib⟩
 have zjd:ClsN K mg "NoPouch":=⟨zbG,zkL,PySem.W.mg_of X G zee,zee⟩
 have zmg:XC K zcs:=⟨⟨_,_,_,_,_,_,_,_,_,_,_,_,_,_,_,_,zl3⟩,zka,zji,zkb,zjj,zjn⟩
 have zk4:ClsN K mg "NoSize":=⟨zcs,zmg,PySem.W.mg_of X G zfp,zfp⟩
 have zoE:XC K zdS:=⟨⟨_,_,_,_,_,_,_,_,_,_,_,_,_,_,_,_,znW⟩,zld,zlv,zl2,zlK,zlY⟩
 have zn0:ClsN K mg "Wrong":=⟨zdS,zoE,PySem.W.mg_of X G zhf,zhf⟩
 have zkK:XC K zbH:=⟨⟨_,_,_,_,_,_,_,_,_,_,_,_,_,_,_,_,zje⟩,zia,zh4,zil,ziq,zir⟩
 have zjP:ClsN K mg "NoTimes":=⟨zbH,zkK,PySem.W.mg_of X G zeD,zeD⟩
 have zmh:XC K zcw:=⟨⟨_,_,_,_,_,_,_,_,_,_,_,_,_,_,_,_,zlC⟩,zjh,zj0,zjD,zjc,zjL⟩
 have zlF:ClsN K mg "Unlike":=⟨zcw,zmh,PySem.W.mg_of X G zfk,zfk⟩
 have zml:XC K zcv:=⟨⟨_,_,_,_,_,_,_,_,_,_,_,_,_,_,_,_,zk2⟩,zjB,zjr,zjs,zjR,zjv⟩
 have zli:ClsN K mg "NoText":=⟨zcv,zml,PySem.W.mg_of X G zft,zft⟩
 have zbo:OwnC K mg "NoPlace":=⟨zaE,⟨zht⟩,PySem.W.mg_of X G zaQ,zaQ⟩
 have T_all:XTab K ["NoPlace", "NoRow"] ["RankError", "NoRow", "NoPlace", "NoPouch", "NoSize", "Wrong", "NoTimes", "Unlike", "NoText"]:=⟨(zaK (zgm zcD ziB) (zaK (zgm zbX zoX) (zaK (zgm zaQ zkQ) (zaK (zgm zee zkL) (zaK (zgm zfp zmg) (zaK (zgm zhf zoE) (zaK (zgm zeD zkK) (zaK (zgm zfk zmh) (zaK (zgm zft zml) zme))))))))),(zaK (zaK (zda zaQ zcD zbS) (zaK (zda zaQ zbX zdc) (zaK (zda zaQ zaQ zcG) (zaK (zda zaQ zee zcJ) (zaK (zda zaQ zfp zc5) (zaK (zda zaQ zhf zdf) (zaK (zda zaQ zeD zcA) (zaK (zda zaQ zfk zcW) (zaK (zda zaQ zft zcY) zme))))))))) (zaK (zaK (zda zbX zcD zcF) (zaK (zda zbX zbX zem) (zaK (zda zbX zaQ zdo) (zaK (zda zbX zee zdr) (zaK (zda zbX zfp zdM) (zaK (zda zbX zhf zej) (zaK (zda zbX zeD zdq) (zaK (zda zbX zfk zdU) (zaK (zda zbX zft zdK) zme))))))))) zme)),(zaK (zgm zaQ zik) (zaK (zgm zbX zlA) zme)),by decide⟩
 have zcu:Cls K zaF:=⟨zjm,zjT,zjK,zjO⟩
 have zbQ:zaI K ["Window"] "block":=zdd za0 zcu zel (zec)
 have zc7:zaI K ["Window"] "full":=zdd za0 zcu zeY (zec)
 have zgX:zaI K ["Window"] "keep":=zdd za0 zcu zeV (zec)
 have zeN:zaI K ["Window"] "many":=zdd za0 zcu zeT (zec)
 have zbf:zaI K ["Window"] "newest":=zdd za0 zcu zdT (zec)
 have zdl:zaI K ["Window"] "reach":=zdd za0 zcu zeE (zec)
 have zhN:=zi7 (st:=zaB) zcU zcX zc2
 have zlm:=zi7 (st:=zcN) zfE zfA zd6
 have zgv:=zi7 (st:=zaT) zb0 zb1 zbr
 have zgP:FunD K "so_manieth" "Window.so_manieth" zau zaU zbw _:=⟨⟨_,_,_,_,_,_,_,_,_,rfl,zcg,zcc⟩⟩
 have zlb:FunD K "off" "Window.off" zaX zb4 zdZ _:=⟨⟨_,_,_,_,_,_,_,_,_,rfl,zfa,zfj⟩⟩
 have zhc:=zi7 (st:=za8) zcx zcy zbE
 have zjJ:=zi7 (st:=zbL) zei zen zcV
 have zly:HasFn K mg "near_enough" zb5:=zaY X G a0 l0 c0 k0
 have zqe:HasFn K mg "look_row" zd7:=zaY X G a1 l1 c1 k1
 have znz:HasFn K mg "number_at" zdg:=zaY X G a2 l2 c2 k2
 have zul:HasFn K mg "packed" zfu:=zaY X G a3 l3 c3 k3
 have znR:HasFn K mg "places_of" zdt:=zaY X G a4 l4 c4 k4
 have zuM:HasFn K mg "of_row" zgx:=zaY X G a5 l5 c5 k5
 have zkf:HasFn K mg "bounds_ahead" zbK:=zaY X G a6 l6 c6 k6
 have zsw:HasFn K mg "thinned" ze4:=zaY X G a7 l7 c7 k7
 have zkA:HasFn K mg "kept_entries" zbO:=zaY X G a8 l8 c8 k8
 have zpk:HasFn K mg "pouch_of" zdj:=zaY X G a9 l9 c9 k9
 have ztx:HasFn K mg "beyond" zfg:=zaY X G a10 l10 c10 k10
 have zuj:HasFn K mg "midway" zgF:=zaY X G a11 l11 c11 k11
 have zpX:HasFn K mg "_law_mix" zd8:=zaY X G a12 l12 c12 k12
 have znM:HasFn K mg "_law_cell" zdi:=zaY X G a13 l13 c13 k13
 have zl5:HasFn K mg "_law_number" zb8:=zaY X G a14 l14 c14 k14
 have zmJ:HasFn K mg "_law_steps" zcK:=zaY X G a15 l15 c15 k15
 have znY:HasFn K mg "_law_step" zdk:=zaY X G a16 l16 c16 k16
 have zm9:HasFn K mg "_law_whole" zcM:=zaY X G a17 l17 c17 k17
 have zmM:HasFn K mg "_law_sizes" zcP:=zaY X G a18 l18 c18 k18
 have zmU:HasFn K mg "_law_asked" zbC:=zaY X G a19 l19 c19 k19
 have zki:HasFn K mg "_law_refused" zbM:=zaY X G a20 l20 c20 k20
 have zp2:HasFn K mg "_law_end" zdn:=zaY X G a21 l21 c21 k21
 have FL:=zi7 (st:=zlc) l22 c22 k22
 refine ⟨PySem.W.fnOf "law" "law" (zar zlc) (zaj zlc) (zac zlc) .none kV22 dc22 pm22 an22 cd22 ct22,fun s v => .of_eq rfl,fun base _ _=>?_⟩
 have zfe:=zkY (P:=l.prog) (w:=w) (base:=base) B zly
 have zit:=zpU (P:=l.prog) (w:=w) (base:=base) B zqe zjf
 have zgz:=ztc (P:=l.prog) (w:=w) (base:=base) B zul
 have zeU:=zke (P:=l.prog) (w:=w) (base:=base) B zkf
 have zbx:=ztm (P:=l.prog) (w:=w) (base:=base) B ztx
 have za9:=zpE (P:=l.prog) (w:=w) (base:=base) B zpX
 have zfw:=zk8 (P:=l.prog) (w:=w) (base:=base) B zl5
 have zeJ:=zm8 (P:=l.prog) (w:=w) (base:=base) B zm9
 have zgf:=zm7 (P:=l.prog) (w:=w) (base:=base) B zmM
 have zls:=zhI (P:=l.prog) (w:=w) (base:=base) B zbQ zc7 zgX zeN zbf zdl (cls := "Window") ⟨zaF,zbu,_,za0,PySem.W.mg_of X G za0,⟨zjy,zcT,zcZ,zjx⟩,zhN⟩
 have zch:=zgQ (P:=l.prog) (w:=w) (base:=base) B zbQ zc7 zbf zdl (cls := "Window") ⟨zaF,za6,_,za0,PySem.W.mg_of X G za0,zcu,⟨zbR,zbV,zbr⟩,zgv⟩
 have zal:=zhK (P:=l.prog) (w:=w) (base:=base) B zeN zdl zbo (cls := "Window") ⟨zaF,zbm,_,za0,PySem.W.mg_of X G za0,zcu,⟨zcI,zcB,zbE⟩,zhc⟩
 have zb2:=zoe (P:=l.prog) (w:=w) (base:=base) B znz zgz zbo
 have zhw:=zng (P:=l.prog) (w:=w) (base:=base) B znR zgz
 have zeW:=zkj (P:=l.prog) (w:=w) (base:=base) B zkA zfe
 have zeG:=ztf (P:=l.prog) (w:=w) (base:=base) B zuj zeU
 have zbj:=znv (P:=l.prog) (w:=w) (base:=base) B znM za9
 have zlr:=zuw (P:=l.prog) (w:=w) (base:=base) B zuM zit zhw
 have zjY:=zrn (P:=l.prog) (w:=w) (base:=base) B zsw zeW
 have zf3:=zmt (P:=l.prog) (w:=w) (base:=base) B zmJ zbj
 have zhi:=zol (P:=l.prog) (w:=w) (base:=base) B znY zbj za9
 have zeb:=zpM (P:=l.prog) (w:=w) (base:=base) B zpk zlr
 have zge:=zmq (P:=l.prog) (w:=w) (base:=base) B zeb zjY zbQ zc7 zgX zeN zbf zch (cls := "Window") ⟨zaF,zcR,_,za0,PySem.W.mg_of X G za0,zcu,⟨zfB,zfd,zd6⟩,zlm⟩
 have zav:=zkD (P:=l.prog) (w:=w) (base:=base) B zeb zbQ zc7 zbf (cls := "Window") ⟨zaF,zbW,_,za0,PySem.W.mg_of X G za0,zcu,⟨zey,zet,zcV⟩,zjJ⟩
 have zed:zoc K mg "Window" "so_manieth" "Window.so_manieth" zau #[.none]:=⟨zaF,zaU,_,zbw,_,_,za0,PySem.W.mg_of X G za0,zcu,⟨zcd,zck,zcb⟩,zgP,zci,rfl⟩
 have za2:=zg2 (P:=l.prog) (w:=w) (base:=base) B zbx zeG zb2 zal zav zbo zed
 have zcC:=zgN (P:=l.prog) (w:=w) (base:=base) B zbx zeG zb2 zal zav zbo zed
 have ziy:zoc K mg "Window" "off" "Window.off" zaX #[.none]:=⟨zaF,zb4,_,zdZ,_,_,za0,PySem.W.mg_of X G za0,zcu,⟨zfc,zfC,zfF⟩,zlb,zfD,rfl⟩
 have zgl:=zmH (P:=l.prog) (w:=w) (base:=base) B zbx zal zav ziy
 have zgt:=zl7 (P:=l.prog) (w:=w) (base:=base) B zbx zal zav ziy
 have zcO:=znd (P:=l.prog) (w:=w) (base:=base) B zmU zeJ zgl za2 zgt zcC
 have zbN:=zkv (P:=l.prog) (w:=w) (base:=base) B zki zjg zjd znj zk4 zli zjP zhx zlF zn0 za2 T_all
 have zh7:=zps (P:=l.prog) (w:=w) (base:=base) B zp2 zcO za9 zbN
 exact zxI (zzR B FL zcO zbj zh7 za9 zfw zgf zhi zf3 zls zge) M.zv7
theorem walk {l:PySem.W.OpenLaw} {q:Program} {loose:List Str} {XP:(Str→Option Value)→Heap→Prop} {YP:World→Heap→Prop} {d:DefRec} {K:Params→PySem.W.Frag} (hn:l.most=some 63) (hdf:d.params.defaults=[])
  (hY:∀ (w:World) (h:Heap),YP w h→(K w.params).In h)
  (F:∀ (w:World) (mg:Str→Option Value) (fa:Addr) (h:Heap),(K w.params).In h→h.Ns mainGlobals mg→mg d.name=some (.ref fa) →
   ∃ fd:FuncData,(∀ (s:Shared) (u:Value),BindsTo s fd ⟨[u],[]⟩ [("_law_script",u)])∧∀ base:Heap,(K w.params).In base→base.Ns mainGlobals mg→FnOk l.prog w (K w.params) mg base CX0 9 fa fd ["_law_script"] (zup (K w.params))) :
  PySem.W.WalkO q loose XP YP l.row.toRowW d [] (fun f vs=>PySem.call f vs) :=
 L2.zvO (n:=63) (k:=9) (x := "_law_script") (CX:=fun _=>CX0) (sp:=fun w=>zup (K w.params)) hn (by decide) hdf ⟨rfl,by decide,by decide⟩ hY F (fun _ _ a ns hl _ hS=>⟨a,ns,rfl,hS,hl,fun _=>rfl⟩) fun _ _ _ _ _ z=>z
end K72
open PySem PySem.W PyProof.Rows
namespace HD
open PySem PySem.W PyProof.Rows
def runT (B:String→Option Builtin) (p:Program) (w:World) (lo:Nat) (an:Option Value):Nat→SharedT→Thread→Option SharedT
 | 0,_,_=>none
 | m + 1,x,th=>bif through th then some x else bif stepOk lo an th then (stepT (denote B) p w x th).bind (fun y=>runT B p w lo an m y.1 y.2) else none
theorem zxO {B:String→Option Builtin} {p:Program} {w:World} {lo:Nat} {an:Option Value} (m:Nat) :
  ∀ (x y:SharedT) (th:Thread),runT B p w lo an m x th=some y→topRun B p w lo an m x.abs th=some y.abs:=by
 induction m with
 | zero=>intro x y th z;cases z
 | succ m ih =>
  intro x y th z
  unfold runT at z;unfold topRun
  cases a:through th <;> rw [a] at z
  ·cases b:stepOk lo an th <;> rw [b] at z
   ·cases z
   ·obtain ⟨u,hu,z'⟩:=Option.bind_eq_some_iff.mp (show (stepT (denote B) p w x th).bind _=some y from z)
    dsimp only
    rw [stepT_spec (s':=u.1) (t':=u.2) hu]
    exact ih _ _ _ z'
  ·cases z;rfl
def grow:List Obj→BT→Nat→BT
 | [],T,_=>T
 | o :: l,T,n=>grow l (T.ins n o) (n + 1)
noncomputable def boot (w:World) (os:OsState):SharedT:=⟨grow (boot_heap w.params).objs.toList .nil 0,11,(boot_heap w.params).life,#[],boot_drawn,boot_toks,os⟩
noncomputable def ends (p:Program) (N:Nat) (w:World) (os:OsState):Option SharedT:=runT treeTable p w 11 (some (.ref 6)) N (boot w os) (topStub p)
theorem zsS (w:World):((boot_heap w.params).isNs mainGlobals && (#[] : Array GenState).size == 0,(boot_heap w.params).objs.size,(boot_heap w.params).nsMap mainGlobals "__annotations__")=(true,11,some (Value.ref 6)):=by kernel_rfl
theorem boot_abs (w:World) (os:OsState):(boot w os).abs=⟨boot_heap w.params,#[],boot_drawn,boot_toks,os⟩:=by kernel_rfl
def fits (p:Program) (h:Heap) (y:SharedT):Bool:=staticsOk (importedModules p.main.body) h y.abs.heap && namesBound p y.abs.heap && gensDone y.abs && laidKept h y.abs.heap
theorem left {p q:Program} {loose:List Str} {Xt:Shared→Bool} {α:Type} {Yf:Shared→α} {Ya:World→α} {N:Nat} {g0:Bool}
  (plain:opening p=plainProg p.main.scope.names) (hN:Nat.ble 600 N=true) (fence:∀ s,fenceModules? p s=some s)
  (tests:∀ (w:World) (os:OsState),(ends p N w os).map (fits p (boot_heap w.params))=some true)
  (zwl:∀ (w:World) (os:OsState),(ends p N w os).map (fun y=>openSeen q loose (importedModules p.main.body) Xt g0 y.abs)=some (openGood q loose))
  (hook:∀ (w:World) (os:OsState),(ends p N w os).map (fun y=>Yf y.abs)=some (Ya w)) :
  LeftO p q loose Xt Yf Ya N g0:=by
 intro w
 obtain ⟨⟨hp,ge,dr,tk,os⟩,ho,hq⟩:=Option.map_eq_some_iff.mp (boot_open plain hN fence w)
 simp only [Prod.mk.injEq] at hq
 obtain ⟨rfl,rfl,rfl,rfl⟩:=hq
 have bs:=zsS w
 simp only [Prod.mk.injEq] at bs
 obtain ⟨y,hy,a1⟩:=Option.map_eq_some_iff.mp (tests w os)
 have a2:=zwl w os
 have a3:=hook w os
 rw [hy] at a2 a3
 have rr:=zxO _ _ _ _ hy
 rw [boot_abs] at rr
 have tt:topFrom treeTable p w N ⟨boot_heap w.params,#[],boot_drawn,boot_toks,os⟩ = some y.abs:=by
  unfold topFrom;dsimp only
  rw [bs.1,bs.2.1,bs.2.2,rr]
  show (match fits p (boot_heap w.params) y with | true=>some y.abs | false=>none)=some y.abs
  rw [a1]
 show ((fencedOpening treeTable p w N).bind (topFrom treeTable p w N)).map _=_
 rw [ho,Option.bind_some,tt,Option.map_some,Option.some.injEq,Prod.mk.injEq]
 exact ⟨Option.some.inj a2,Option.some.inj a3⟩
end HD
namespace HD
open PySem PySem.W PyProof.Rows
set_option maxRecDepth 100000
set_option maxHeartbeats 0
noncomputable def zyG (ds:List Nat) (l:List Stmt):List Stmt:=@List.rec Stmt (fun _=>Nat→List Stmt) (fun _=>[]) (fun s _ f i=>@Bool.rec (fun _=>List Stmt) (s :: f (Nat.succ i)) (f (Nat.succ i)) (ds.any (Nat.beq i))) l 0
noncomputable def kept:Program:={ PySem.Challenge.pw_rankpouch_k72_window_places with main:={ PySem.Challenge.pw_rankpouch_k72_window_places.main with body:=zyG [1,11,13,19,24,29] PySem.Challenge.pw_rankpouch_k72_window_places.main.body } }
noncomputable def seenX (s:Shared):Bool:=xlAt kept [] s && recOk (RowW.records (OpenRow.toRowW (OpenLaw.row PySem.Challenge.rw_rankpouch_k72_window_places))) s
theorem said:OpenLaw.wellSaid PySem.Challenge.rw_rankpouch_k72_window_places=true:=by kernel_rfl
theorem plain:opening PySem.Challenge.pw_rankpouch_k72_window_places=plainProg PySem.Challenge.pw_rankpouch_k72_window_places.main.scope.names:=by kernel_rfl
theorem fence (s:Shared):fenceModules? PySem.Challenge.pw_rankpouch_k72_window_places s=some s:=by kernel_rfl
theorem tests (w:World) (os:OsState):(ends PySem.Challenge.pw_rankpouch_k72_window_places 6762 w os).map (fits PySem.Challenge.pw_rankpouch_k72_window_places (boot_heap w.params))=some true:=by kernel_rfl
theorem zwl (w:World) (os:OsState):(ends PySem.Challenge.pw_rankpouch_k72_window_places 6762 w os).map (fun y=>openSeen kept [] (importedModules PySem.Challenge.pw_rankpouch_k72_window_places.main.body) seenX true y.abs)=some (openGood kept []):=by kernel_rfl
end HD
open PySem PySem.W PyProof.Rows
local macro_rules
 | `(tactic| o_head $H)=>`(tactic| refine holds_open (q:=HD.kept) (loose:=[]) (N:=6762) (Xt:=HD.seenX)
   (XP:=XL HD.kept []) (Yf:=Hook.obs $H) (Ya:=Hook.val $H) (YP:=Hook.says $H)
   ?_ (Hook.of $H) (Hook.keeps $H) (fun s e=>xl_of s (Bool.and_eq_true_iff.mp e).1) XL.keeps
   (by rfl) (by rfl) (by rfl) (fun s e=>recFacts_of (Bool.and_eq_true_iff.mp e).2)
   (by rfl) (by assumption) (by decide +kernel) ⟨rfl,rfl,rfl,rfl,rfl,by decide +kernel⟩ ?_ ?_)
set_option maxRecDepth 100000 in
set_option maxHeartbeats 0 in
theorem PySem.Challenge.cw_rankpouch_k72_window_places_holds : PySem.Challenge.rw_rankpouch_k72_window_places.Holds := by
 w_on
 refine holds_law HD.said fun said=>?_
 k_head
 ·clear said
  refine HD.left HD.plain (by kernel_rfl) HD.fence HD.tests HD.zwl ?_
  intro w os
  kernel_rfl
 ·clear said
  w_witness2
 clear said
 k_fill
 refine K72.walk (l:=PySem.Challenge.rw_rankpouch_k72_window_places) rfl rfl (fun w h Y=>PySem.W.kIn_of Y) ?F
 case F =>
  intro w mg fa h KX G hmg
  refine' K72.all_mk KX G hmg ?a0 ?l0 ?c0 ?k0 ?a1 ?l1 ?c1 ?k1 ?a2 ?l2 ?c2 ?k2 ?a3 ?l3 ?c3 ?k3 ?a4 ?l4 ?c4 ?k4 ?a5 ?l5 ?c5 ?k5 ?a6 ?l6 ?c6 ?k6 ?a7 ?l7 ?c7 ?k7 ?a8 ?l8 ?c8 ?k8 ?a9 ?l9 ?c9 ?k9 ?a10 ?l10 ?c10 ?k10 ?a11 ?l11 ?c11 ?k11 ?a12 ?l12 ?c12 ?k12 ?a13 ?l13 ?c13 ?k13 ?a14 ?l14 ?c14 ?k14 ?a15 ?l15 ?c15 ?k15 ?a16 ?l16 ?c16 ?k16 ?a17 ?l17 ?c17 ?k17 ?a18 ?l18 ?c18 ?k18 ?a19 ?l19 ?c19 ?k19 ?a20 ?l20 ?c20 ?k20 ?a21 ?l21 ?c21 ?k21 ?a22 ?l22 ?c22 ?k22 ?zgk ?zq5 ?zhd ?zv8 ?zgu ?zw6 ?zxb ?zwh ?znS ?zlq ?zwE ?zj2 ?zcD ?zbX ?zaQ ?zee ?zfp ?zhf ?zeD ?zfk ?zft ?zhe ?zfY ?zf4 ?zgc ?zgo ?zf8 ?znh ?zlO ?zln ?zlL ?zkZ ?zl4 ?zju ?zio ?zhY ?ziv ?zh8 ?zh5 ?zj3 ?zix ?zif ?zh2 ?ziu ?zib ?zl3 ?zka ?zji ?zkb ?zjj ?zjn ?znW ?zld ?zlv ?zl2 ?zlK ?zlY ?zje ?zia ?zh4 ?zil ?ziq ?zir ?zlC ?zjh ?zj0 ?zjD ?zjc ?zjL ?zk2 ?zjB ?zjr ?zjs ?zjR ?zjv ?zht ?zik ?zbS ?zdc ?zcG ?zcJ ?zc5 ?zdf ?zcA ?zcW ?zcY ?zlA ?zcF ?zem ?zdo ?zdr ?zdM ?zej ?zdq ?zdU ?zdK ?za0 ?zcT ?zcU ?zcX ?zc2 ?zcZ ?zfB ?zfE ?zfA ?zd6 ?zfd ?zbR ?zb0 ?zb1 ?zbr ?zbV ?zcd ?zcg ?zcc ?zcb ?zck ?zci ?zfc ?zfa ?zfj ?zfF ?zfC ?zfD ?zcI ?zcx ?zcy ?zbE ?zcB ?zey ?zei ?zen ?zcV ?zet ?zjm ?zjT ?zjK ?zjO ?zjy ?zjx ?zel ?zeY ?zeV ?zeT ?zdT ?zeE
  (case a0=>k_is)
  (case l0=>k_is)
  (case c0=>k_is)
  (case k0=>k_is)
  (case a1=>k_is)
  (case l1=>k_is)
  (case c1=>k_is)
  (case k1=>k_is)
  (case a2=>k_is)
  (case l2=>k_is)
  (case c2=>k_is)
  (case k2=>k_is)
  (case a3=>k_is)
  (case l3=>k_is)
  (case c3=>k_is)
  (case k3=>k_is)
  (case a4=>k_is)
  (case l4=>k_is)
  (case c4=>k_is)
  (case k4=>k_is)
  (case a5=>k_is)
  (case l5=>k_is)
  (case c5=>k_is)
  (case k5=>k_is)
  (case a6=>k_is)
  (case l6=>k_is)
  (case c6=>k_is)
  (case k6=>k_is)
  (case a7=>k_is)
  (case l7=>k_is)
  (case c7=>k_is)
  (case k7=>k_is)
  (case a8=>k_is)
  (case l8=>k_is)
  (case c8=>k_is)
  (case k8=>k_is)
  (case a9=>k_is)
  (case l9=>k_is)
  (case c9=>k_is)
  (case k9=>k_is)
  (case a10=>k_is)
  (case l10=>k_is)
  (case c10=>k_is)
  (case k10=>k_is)
  (case a11=>k_is)
  (case l11=>k_is)
  (case c11=>k_is)
  (case k11=>k_is)
  (case a12=>k_is)
  (case l12=>k_is)
  (case c12=>k_is)
  (case k12=>k_is)
  (case a13=>k_is)
  (case l13=>k_is)
  (case c13=>k_is)
  (case k13=>k_is)
  (case a14=>k_is)
  (case l14=>k_is)
  (case c14=>k_is)
  (case k14=>k_is)
  (case a15=>k_is)
  (case l15=>k_is)
  (case c15=>k_is)
  (case k15=>k_is)
  (case a16=>k_is)
  (case l16=>k_is)
  (case c16=>k_is)
  (case k16=>k_is)
  (case a17=>k_is)
  (case l17=>k_is)
  (case c17=>k_is)
  (case k17=>k_is)
  (case a18=>k_is)
  (case l18=>k_is)
  (case c18=>k_is)
  (case k18=>k_is)
  (case a19=>k_is)
  (case l19=>k_is)
  (case c19=>k_is)
  (case k19=>k_is)
  (case a20=>k_is)
  (case l20=>k_is)
  (case c20=>k_is)
  (case k20=>k_is)
  (case a21=>k_is)
  (case l21=>k_is)
  (case c21=>k_is)
  (case k21=>k_is)
  (case a22=>k_is)
  (case l22=>k_is)
  (case c22=>k_is)
  (case k22=>k_is)
  (case zgk=>k_is)
  (case zq5=>k_is)
  (case zhd=>k_is)
  (case zv8=>k_is)
  (case zgu=>k_is)
  (case zw6=>k_is)
  (case zxb=>k_is)
  (case zwh=>k_is)
  (case znS=>k_is)
  (case zlq=>k_is)
  (case zwE=>k_is)
  (case zj2=>k_is)
  (case zcD=>k_is)
  (case zbX=>k_is)
  (case zaQ=>k_is)
  (case zee=>k_is)
  (case zfp=>k_is)
  (case zhf=>k_is)
  (case zeD=>k_is)
  (case zfk=>k_is)
  (case zft=>k_is)
  (case zhe=>k_is)
  (case zfY=>k_is)
  (case zf4=>k_is)
  (case zgc=>k_is)
  (case zgo=>k_is)
  (case zf8=>k_is)
  (case znh=>k_is)
  (case zlO=>k_is)
  (case zln=>k_is)
  (case zlL=>k_is)
  (case zkZ=>k_is)
  (case zl4=>k_is)
  (case zju=>k_is)
  (case zio=>k_is)
  (case zhY=>k_is)
  (case ziv=>k_is)
  (case zh8=>k_is)
  (case zh5=>k_is)
  (case zj3=>k_is)
  (case zix=>k_is)
  (case zif=>k_is)
  (case zh2=>k_is)
  (case ziu=>k_is)
  (case zib=>k_is)
  (case zl3=>k_is)
  (case zka=>k_is)
  (case zji=>k_is)
  (case zkb=>k_is)
  (case zjj=>k_is)
  (case zjn=>k_is)
  (case znW=>k_is)
  (case zld=>k_is)
  (case zlv=>k_is)
  (case zl2=>k_is)
  (case zlK=>k_is)
  (case zlY=>k_is)
  (case zje=>k_is)
  (case zia=>k_is)
  (case zh4=>k_is)
  (case zil=>k_is)
  (case ziq=>k_is)
  (case zir=>k_is)
  (case zlC=>k_is)
  (case zjh=>k_is)
  (case zj0=>k_is)
  (case zjD=>k_is)
  (case zjc=>k_is)
  (case zjL=>k_is)
  (case zk2=>k_is)
  (case zjB=>k_is)
  (case zjr=>k_is)
  (case zjs=>k_is)
  (case zjR=>k_is)
  (case zjv=>k_is)
  (case zht=>k_exc)
  (case zik=>k_is)
  (case zbS=>k_is)
  (case zdc=>k_is)
  (case zcG=>k_is)
  (case zcJ=>k_is)
  (case zc5=>k_is)
  (case zdf=>k_is)
  (case zcA=>k_is)
  (case zcW=>k_is)
  (case zcY=>k_is)
  (case zlA=>k_is)
  (case zcF=>k_is)
  (case zem=>k_is)
  (case zdo=>k_is)
  (case zdr=>k_is)
  (case zdM=>k_is)
  (case zej=>k_is)
  (case zdq=>k_is)
  (case zdU=>k_is)
  (case zdK=>k_is)
  (case za0=>k_is)
  (case zcT=>k_is)
  (case zcU=>k_is)
  (case zcX=>k_is)
  (case zc2=>k_is)
  (case zcZ=>kernel_rfl)
  (case zfB=>k_is)
  (case zfE=>k_is)
  (case zfA=>k_is)
  (case zd6=>k_is)
  (case zfd=>kernel_rfl)
  (case zbR=>k_is)
  (case zb0=>k_is)
  (case zb1=>k_is)
  (case zbr=>k_is)
  (case zbV=>kernel_rfl)
  (case zcd=>k_is)
  (case zcg=>k_is)
  (case zcc=>k_is)
  (case zcb=>k_is)
  (case zck=>kernel_rfl)
  (case zci=>k_is)
  (case zfc=>k_is)
  (case zfa=>k_is)
  (case zfj=>k_is)
  (case zfF=>k_is)
  (case zfC=>kernel_rfl)
  (case zfD=>k_is)
  (case zcI=>k_is)
  (case zcx=>k_is)
  (case zcy=>k_is)
  (case zbE=>k_is)
  (case zcB=>kernel_rfl)
  (case zey=>k_is)
  (case zei=>k_is)
  (case zen=>k_is)
  (case zcV=>k_is)
  (case zet=>kernel_rfl)
  (case zjm=>kernel_rfl)
  (case zjT=>kernel_rfl)
  (case zjK=>kernel_rfl)
  (case zjO=>k_is)
  (case zjy=>kernel_rfl)
  (case zjx=>k_is)
  (case zel=>k_is)
  (case zeY=>k_is)
  (case zeV=>k_is)
  (case zeT=>k_is)
  (case zdT=>k_is)
  (case zeE=>k_is)
